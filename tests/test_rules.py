import inspect
import itertools
import unittest

from tellscolumns.errors import BadRules, BadSet
from tellscolumns.rules import Rules, closed, keys, told
from tests.helper import NO_LISTS, NO_NUMBERS, OTHER_KINDS, slow_told, some_rules


class Making(unittest.TestCase):
    def test_arguments(self):
        self.assertEqual(list(inspect.signature(Rules).parameters), ["columns", "rules"])
        self.assertEqual(list(inspect.signature(told).parameters), ["rules", "some"])
        self.assertEqual(list(inspect.signature(closed).parameters), ["rules"])
        self.assertEqual(list(inspect.signature(keys).parameters), ["rules"])
        self.assertEqual(Rules(columns=2, rules=[(1, 2)]).rules(), [(1, 2)])

    def test_holds_what_was_given(self):
        rules = Rules(4, [(3, 4), (0, 8), (3, 4)])
        self.assertEqual(rules.columns, 4)
        self.assertEqual(rules.rules(), [(3, 4), (0, 8), (3, 4)])
        self.assertIs(type(rules.rules()), list)
        self.assertIs(type(rules.rules()[0]), tuple)

    def test_edges(self):
        for columns in range(1, 7):
            whole = (1 << columns) - 1
            for given in [[], [(0, 0)], [(whole, whole)], [(0, whole)] * 64]:
                self.assertEqual(Rules(columns, given).rules(), given)
                self.assertEqual(Rules(columns, given).columns, columns)

    def test_columns_refused(self):
        for columns in NO_NUMBERS + [0, 7, -1, 64, 10 ** 30, -10 ** 30]:
            with self.assertRaises(BadRules, msg=repr(columns)):
                Rules(columns, [])

    def test_rules_refused(self):
        for given in NO_LISTS + [((1, 2),), ((0, 0), (0, 0)), {(0, 0): 1}, iter([]), (1, 2)]:
            with self.assertRaises(BadRules, msg=repr(given)):
                Rules(2, given)

    def test_too_many_refused(self):
        with self.assertRaises(BadRules):
            Rules(2, [(1, 2)] * 65)

    def test_rule_refused(self):
        wrong = OTHER_KINDS + [True, False, 0, 3, [], [1, 2], (), (1,), (1, 2, 3), ((1, 2),), "12"]
        for rule in wrong:
            for given in [[rule], [(1, 2), rule], [rule, (1, 2)]]:
                with self.assertRaises(BadRules, msg=repr(rule)):
                    Rules(2, given)

    def test_set_in_a_rule_refused(self):
        for some in NO_NUMBERS + [-1, 4, 10 ** 30]:
            for rule in [(some, 1), (1, some), (some, some)]:
                with self.assertRaises(BadRules, msg=repr(rule)):
                    Rules(2, [rule])

    def test_just_beyond_the_columns(self):
        for columns in range(1, 7):
            for rule in [(1 << columns, 0), (0, 1 << columns)]:
                with self.assertRaises(BadRules):
                    Rules(columns, [rule])

    def test_nothing_handed_in_is_kept_or_changed(self):
        given = [(1, 2), (2, 4)]
        rules = Rules(3, given)
        self.assertEqual(given, [(1, 2), (2, 4)])
        given.append((4, 1))
        given[0] = (0, 7)
        self.assertEqual(rules.rules(), [(1, 2), (2, 4)])
        self.assertEqual(told(rules, 0), 0)

    def test_the_list_told_is_the_askers_own(self):
        rules = Rules(3, [(1, 2), (2, 4)])
        first = rules.rules()
        self.assertIsNot(first, rules.rules())
        first.clear()
        self.assertEqual(rules.rules(), [(1, 2), (2, 4)])
        self.assertEqual(told(rules, 1), 7)


class Told(unittest.TestCase):
    def test_ordinary(self):
        rules = Rules(4, [(3, 4), (4, 8)])
        self.assertEqual(told(rules, 3), 15)
        self.assertEqual(told(rules, 1), 1)
        self.assertEqual(told(rules, 4), 12)
        self.assertEqual(told(rules, 8), 8)

    def test_rules_in_any_turn(self):
        chain = [(1, 2), (2, 4), (4, 8), (8, 16), (16, 32)]
        for given in [chain, chain[::-1]]:
            self.assertEqual(told(Rules(6, given), 1), 63)
            self.assertEqual(told(Rules(6, given), 8), 56)

    def test_left_of_several_columns_needs_them_all(self):
        rules = Rules(3, [(3, 4)])
        self.assertEqual([told(rules, some) for some in range(8)], [0, 1, 2, 7, 4, 5, 6, 7])

    def test_edges(self):
        for columns in range(1, 7):
            whole = (1 << columns) - 1
            self.assertEqual(told(Rules(columns, []), 0), 0)
            self.assertEqual(told(Rules(columns, []), whole), whole)
            self.assertEqual(told(Rules(columns, [(0, whole)]), 0), whole)
            self.assertEqual(told(Rules(columns, [(whole, 0)] * 64), 0), 0)

    def test_by_tables_of_two_rows(self):
        sets = list(itertools.product(range(4), repeat=2))
        for count in range(3):
            for given in itertools.product(sets, repeat=count):
                rules = Rules(2, list(given))
                for some in range(4):
                    self.assertEqual(told(rules, some), slow_told(2, given, some), (given, some))

    def test_by_tables_of_two_rows_at_chance(self):
        for seed in range(120):
            columns = seed % 6 + 1
            given = some_rules(seed, columns, [1, 3, 5, 8, 64][seed % 5])
            rules = Rules(columns, given)
            for some in range(1 << columns):
                self.assertEqual(told(rules, some), slow_told(columns, given, some), (given, some))

    def test_refused(self):
        rules = Rules(3, [(1, 2)])
        for some in NO_NUMBERS + [-1, 8, 9, 10 ** 30, -10 ** 30]:
            with self.assertRaises(BadSet, msg=repr(some)):
                told(rules, some)

    def test_just_beyond_the_columns(self):
        for columns in range(1, 7):
            with self.assertRaises(BadSet):
                told(Rules(columns, []), 1 << columns)

    def test_changes_nothing(self):
        rules = Rules(3, [(1, 2), (2, 4)])
        told(rules, 1)
        closed(rules)
        keys(rules)
        self.assertEqual((rules.columns, rules.rules()), (3, [(1, 2), (2, 4)]))
        self.assertEqual(told(rules, 0), 0)


class Closed(unittest.TestCase):
    def test_ordinary(self):
        self.assertEqual(closed(Rules(3, [(1, 2), (6, 1)])), [0, 2, 3, 4, 7])

    def test_edges(self):
        for columns in range(1, 7):
            whole = (1 << columns) - 1
            self.assertEqual(closed(Rules(columns, [])), list(range(whole + 1)))
            self.assertEqual(closed(Rules(columns, [(0, whole)])), [whole])
            self.assertEqual(closed(Rules(columns, [(0, whole)] * 64)), [whole])

    def test_at_chance(self):
        for seed in range(60):
            columns = seed % 6 + 1
            given = some_rules(seed, columns, seed % 9)
            wanted = [some for some in range(1 << columns) if slow_told(columns, given, some) == some]
            self.assertEqual(closed(Rules(columns, given)), wanted)

    def test_own_list(self):
        rules = Rules(2, [(1, 2)])
        first = closed(rules)
        self.assertIs(type(first), list)
        self.assertIsNot(first, closed(rules))
        first.clear()
        self.assertEqual(closed(rules), [0, 2, 3])


class Keys(unittest.TestCase):
    def test_ordinary(self):
        self.assertEqual(keys(Rules(3, [(1, 2), (2, 4), (4, 1)])), [1, 2, 4])
        self.assertEqual(keys(Rules(4, [(3, 4), (4, 8)])), [3])
        self.assertEqual(keys(Rules(3, [(3, 4), (4, 2)])), [3, 5])

    def test_keys_of_other_sizes(self):
        self.assertEqual(keys(Rules(4, [(8, 7), (7, 8)])), [7, 8])

    def test_edges(self):
        for columns in range(1, 7):
            whole = (1 << columns) - 1
            self.assertEqual(keys(Rules(columns, [])), [whole])
            self.assertEqual(keys(Rules(columns, [(0, whole)])), [0])
            self.assertEqual(keys(Rules(columns, [(whole, whole)] * 64)), [whole])

    def test_most_keys(self):
        threes = [some for some in range(64) if bin(some).count("1") == 3]
        rules = Rules(6, [(some, 63) for some in threes])
        self.assertEqual(keys(rules), threes)

    def test_at_chance(self):
        for seed in range(60):
            columns = seed % 6 + 1
            given = some_rules(seed, columns, seed % 9)
            whole = (1 << columns) - 1
            telling = [some for some in range(whole + 1) if slow_told(columns, given, some) == whole]
            wanted = [some for some in telling if not any(less != some and less | some == some for less in telling)]
            self.assertEqual(keys(Rules(columns, given)), wanted)

    def test_own_list(self):
        rules = Rules(2, [(1, 2)])
        first = keys(rules)
        self.assertIs(type(first), list)
        self.assertIsNot(first, keys(rules))
        first.clear()
        self.assertEqual(keys(rules), [1])
