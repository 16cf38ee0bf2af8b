import inspect
import itertools
import random
import unittest

from tellscolumns.answers import Alike, Apart, Rows, Steps
from tellscolumns.errors import BadSet, Unlike
from tellscolumns.rules import Rules
from tellscolumns.telling import alike, follows, thinned
from tests.helper import NO_NUMBERS, all_rules, drawn_rules, fault_in_thin, lean_rules, slow_keeps, slow_rows
from tests.helper import slow_steps, slow_tells, small_tables, some_rules


class Follows(unittest.TestCase):
    def hold(self, rules, left, right, tells):
        answer = follows(rules, left, right)
        self.assertIs(answer.shows(rules, left, right), True)
        if right & ~tells[left]:
            self.assertIs(type(answer), Rows)
            self.assertTrue(slow_rows(answer.one, answer.other, rules, left, right))
            for number in answer.one + answer.other:
                self.assertIs(type(number), int)
                self.assertTrue(0 <= number <= 99)
        else:
            self.assertIs(type(answer), Steps)
            self.assertTrue(slow_steps(answer.places, rules, left, right))
        return answer

    def hold_all(self, columns, given):
        rules = Rules(columns, given)
        tells = slow_tells(columns, given)
        for left, right in itertools.product(range(1 << columns), repeat=2):
            self.hold(rules, left, right, tells)

    def test_arguments(self):
        self.assertEqual(list(inspect.signature(follows).parameters), ["rules", "left", "right"])

    def test_ordinary(self):
        rules = Rules(4, [(4, 8), (3, 4), (1, 2)])
        self.assertEqual(follows(rules, 1, 8).places, [2, 1, 0])
        self.assertEqual(follows(rules, 4, 8).places, [0])
        answer = follows(rules, 4, 3)
        self.assertIs(type(answer), Rows)
        self.assertEqual([one == other for one, other in zip(answer.one, answer.other)], [False, False, True, True])

    def test_the_left_tells_itself(self):
        for columns in range(1, 7):
            for left in range(1 << columns):
                self.assertEqual(follows(Rules(columns, []), left, left).places, [])
                self.assertEqual(follows(Rules(columns, []), left, 0).places, [])

    def test_empty_left(self):
        self.assertIs(type(follows(Rules(2, []), 0, 1)), Rows)
        self.assertEqual(follows(Rules(2, [(1, 2), (0, 1)]), 0, 3).places, [1, 0])

    def test_a_rule_that_follows_in_part_only(self):
        rules = Rules(3, [(1, 2)])
        self.assertIs(type(follows(rules, 1, 6)), Rows)
        self.assertIs(type(follows(rules, 1, 3)), Steps)

    def test_a_chain_through_all_columns(self):
        chain = [(1, 2), (2, 4), (4, 8), (8, 16), (16, 32)]
        for given in [chain, chain[::-1], chain * 12]:
            self.hold_all(6, given)

    def test_edges(self):
        for columns in [1, 6]:
            whole = (1 << columns) - 1
            for given in [[], [(0, 0)], [(0, whole)], [(whole, 0)] * 64, [(whole, whole)] * 63 + [(0, whole)]]:
                rules = Rules(columns, given)
                tells = slow_tells(columns, given)
                for left, right in itertools.product([0, 1, whole], repeat=2):
                    self.hold(rules, left, right, tells)

    def test_the_last_of_64_rules(self):
        rules = Rules(6, [(63, 0)] * 63 + [(1, 62)])
        self.assertEqual(follows(rules, 1, 63).places, [63])

    def test_one_column(self):
        for given in all_rules(1, 3):
            self.hold_all(1, given)

    def test_two_columns(self):
        for given in all_rules(2, 2):
            self.hold_all(2, given)

    def test_at_chance(self):
        for columns, given in drawn_rules(324):
            rules = Rules(columns, given)
            tells = slow_tells(columns, given)
            chance = random.Random(len(given))
            for _ in range(40):
                self.hold(rules, chance.randrange(1 << columns), chance.randrange(1 << columns), tells)

    def test_by_all_small_tables(self):
        tables = list(small_tables(2, 3, 1))
        for given in all_rules(2, 1):
            kept = [table for table in tables if all(slow_keeps(table, rule) for rule in given)]
            for rule in itertools.product(range(4), repeat=2):
                wanted = all(slow_keeps(table, rule) for table in kept)
                self.assertEqual(isinstance(follows(Rules(2, given), *rule), Steps), wanted)

    def test_refused(self):
        rules = Rules(3, [(1, 2)])
        for some in NO_NUMBERS + [-1, 8, 9, 10 ** 30, -10 ** 30]:
            for left, right in [(some, 1), (1, some), (some, some), (some, 0), (7, some), (0, some)]:
                with self.assertRaises(BadSet, msg=repr((left, right))):
                    follows(rules, left, right)

    def test_just_beyond_the_columns(self):
        for columns in range(1, 7):
            rules = Rules(columns, [(0, (1 << columns) - 1)])
            for left, right in [(1 << columns, 0), (0, 1 << columns)]:
                with self.assertRaises(BadSet):
                    follows(rules, left, right)

    def test_changes_nothing(self):
        rules = Rules(3, [(1, 2), (2, 4)])
        follows(rules, 1, 4)
        follows(rules, 4, 1)
        self.assertEqual((rules.columns, rules.rules()), (3, [(1, 2), (2, 4)]))

    def test_own_lists(self):
        rules = Rules(3, [(1, 2), (2, 4)])
        first = follows(rules, 1, 4)
        first.places.clear()
        self.assertEqual(follows(rules, 1, 4).places, [0, 1])
        first, second = follows(rules, 4, 1), follows(rules, 4, 1)
        lists = [first.one, first.other, second.one, second.other]
        self.assertEqual(len({id(one) for one in lists}), 4)
        first.one[0] = 50
        first.other[0] = 50
        self.assertEqual(follows(rules, 4, 1).one, second.one)
        self.assertEqual(follows(rules, 4, 1).other, second.other)


class Thinned(unittest.TestCase):
    def hold(self, columns, given):
        thin = thinned(Rules(columns, given))
        self.assertIs(type(thin), list)
        for rule in thin:
            self.assertIs(type(rule), tuple)
            self.assertEqual([type(some) for some in rule], [int, int])
        self.assertEqual(slow_tells(columns, thin), slow_tells(columns, given), given)
        self.assertIsNone(fault_in_thin(columns, thin), given)
        return thin

    def test_arguments(self):
        self.assertEqual(list(inspect.signature(thinned).parameters), ["rules"])

    def test_rights_of_one_left_go_together(self):
        self.assertEqual(self.hold(3, [(1, 2), (1, 4)]), [(1, 6)])
        self.assertEqual(self.hold(3, [(1, 4), (1, 2), (1, 6)]), [(1, 6)])

    def test_a_rule_to_spare(self):
        self.assertEqual(self.hold(3, [(1, 2), (2, 4), (1, 4)]), [(1, 2), (2, 4)])
        self.assertEqual(self.hold(3, [(1, 6), (2, 4)]), [(1, 2), (2, 4)])

    def test_a_column_of_a_left_to_spare(self):
        self.assertEqual(self.hold(3, [(3, 4), (1, 2)]), [(1, 6)])
        self.assertEqual(self.hold(3, [(3, 4), (1, 4)]), [(1, 4)])
        self.assertEqual(self.hold(3, [(0, 1), (3, 4)]), [(0, 1), (2, 4)])

    def test_a_column_of_a_right_in_the_left(self):
        self.assertEqual(self.hold(3, [(3, 7)]), [(3, 4)])

    def test_rising(self):
        self.assertEqual(self.hold(3, [(4, 2), (2, 1)]), [(2, 1), (4, 2)])
        self.assertEqual(self.hold(4, [(8, 4), (3, 4)]), [(3, 4), (8, 4)])

    def test_nothing_follows(self):
        for columns in range(1, 7):
            whole = (1 << columns) - 1
            for given in [[], [(0, 0)], [(whole, whole)] * 64, [(whole, 1)], [(1, 0)], [(1, 1)]]:
                self.assertEqual(self.hold(columns, given), [])

    def test_all_follows(self):
        for columns in range(1, 7):
            whole = (1 << columns) - 1
            for given in [[(0, whole)], [(0, whole)] * 64, [(0, 1), (1, whole)], [(whole, 1), (0, whole)]]:
                self.assertEqual(self.hold(columns, given), [(0, whole)])

    def test_in_a_ring(self):
        ring = [(1 << column, 1 << (column + 1) % 6) for column in range(6)]
        self.assertEqual(len(self.hold(6, ring)), 6)
        self.hold(6, [(left, 63) for left, right in ring])
        self.hold(6, [(one, other) for one, right in ring for other, right in ring])

    def test_many_that_stay(self):
        threes = [some for some in range(64) if bin(some).count("1") == 3]
        self.hold(6, [(some, 63) for some in threes])
        given = [(some, 32) for some in range(32) if bin(some).count("1") == 2]
        self.assertEqual(self.hold(6, given), given)

    def test_one_column(self):
        for given in all_rules(1, 3):
            self.hold(1, given)

    def test_two_columns(self):
        for given in all_rules(2, 2):
            self.hold(2, given)

    def test_three_columns(self):
        for given in list(all_rules(3, 2))[::3]:
            self.hold(3, given)

    def test_at_chance(self):
        for columns, given in drawn_rules(324):
            self.hold(columns, given)

    def test_thin_ones_stay_and_can_be_rules(self):
        for seed in range(60):
            thin = thinned(Rules(6, lean_rules(seed, 6, 9)))
            self.assertEqual(thinned(Rules(6, thin)), thin)

    def test_changes_nothing(self):
        rules = Rules(3, [(2, 4), (1, 6), (3, 3)])
        thinned(rules)
        self.assertEqual((rules.columns, rules.rules()), (3, [(2, 4), (1, 6), (3, 3)]))

    def test_own_list(self):
        rules = Rules(3, [(1, 2), (2, 4)])
        first = thinned(rules)
        self.assertIsNot(first, thinned(rules))
        first.clear()
        self.assertEqual(thinned(rules), [(1, 2), (2, 4)])
        self.assertEqual(rules.rules(), [(1, 2), (2, 4)])

    def test_what_is_thin(self):
        thin = [(1, 2), (2, 4)]
        self.assertIsNone(fault_in_thin(3, thin))
        for given in [[(2, 4), (1, 2)], [(1, 2), (1, 4)], [(1, 3)], [(1, 0)], [(1, 6), (2, 4)], [(1, 2), (3, 4)],
                      [(1, 2), (2, 4), (5, 2)], [(0, 7), (1, 2)]]:
            self.assertIsNotNone(fault_in_thin(3, given), given)


class AlikeOrApart(unittest.TestCase):
    def hold(self, one, other):
        answer = alike(one, other)
        self.assertIs(answer.shows(one, other), True)
        given = [one.rules(), other.rules()]
        if slow_tells(one.columns, given[0]) == slow_tells(other.columns, given[1]):
            self.assertIs(type(answer), Alike)
            self.hold_steps(answer.there, one, other)
            self.hold_steps(answer.back, other, one)
        else:
            self.assertIs(type(answer), Apart)
            self.assertIn(answer.side, [0, 1])
            rule = given[answer.side][answer.place]
            self.assertTrue(slow_rows(answer.one, answer.other, [other, one][answer.side], *rule))
            self.assertTrue(all(type(number) is int and 0 <= number <= 99 for number in answer.one + answer.other))
        return answer

    def hold_steps(self, lists, rules, others):
        self.assertEqual(len(lists), len(rules.rules()))
        for places, rule in zip(lists, rules.rules()):
            self.assertTrue(slow_steps(places, others, *rule))

    def test_arguments(self):
        self.assertEqual(list(inspect.signature(alike).parameters), ["one", "other"])

    def test_ordinary(self):
        answer = self.hold(Rules(3, [(1, 6), (2, 4)]), Rules(3, [(1, 2), (2, 4), (3, 4)]))
        self.assertEqual((answer.there[0], answer.back[:2]), ([0, 1], [[0], [1]]))

    def test_a_rule_of_the_one(self):
        answer = self.hold(Rules(3, [(1, 2), (1, 4)]), Rules(3, [(1, 2)]))
        self.assertEqual((answer.side, answer.place), (0, 1))

    def test_a_rule_of_the_other(self):
        answer = self.hold(Rules(3, [(1, 2)]), Rules(3, [(1, 1), (1, 2), (2, 2), (1, 4)]))
        self.assertEqual((answer.side, answer.place), (1, 3))

    def test_a_rule_of_each(self):
        self.hold(Rules(3, [(1, 2), (2, 4)]), Rules(3, [(1, 2), (4, 2)]))

    def test_no_rules(self):
        for columns in [1, 6]:
            whole = (1 << columns) - 1
            none = Rules(columns, [])
            answer = self.hold(none, none)
            self.assertEqual((answer.there, answer.back), ([], []))
            answer = self.hold(none, Rules(columns, [(whole, 1)] * 64))
            self.assertEqual((answer.there, answer.back), ([], [[]] * 64))
            self.assertEqual(self.hold(none, Rules(columns, [(0, 1)])).side, 1)
            self.assertEqual(self.hold(Rules(columns, [(0, 1)]), none).side, 0)

    def test_64_rules(self):
        many = [(63, 0)] * 63
        answer = self.hold(Rules(6, many + [(1, 62)]), Rules(6, [(1, 2)]))
        self.assertEqual((answer.side, answer.place), (0, 63))
        self.hold(Rules(6, many + [(1, 62)]), Rules(6, [(1, 62)] + many))
        self.hold(Rules(6, [(1, 62)] * 64), Rules(6, [(1, 1 << column) for column in range(6)]))

    def test_the_same_rules_in_another_turn(self):
        for columns, given in drawn_rules(54):
            self.assertIs(type(self.hold(Rules(columns, given), Rules(columns, given[::-1]))), Alike)

    def test_one_column(self):
        for one, other in itertools.product(all_rules(1, 2), repeat=2):
            self.hold(Rules(1, one), Rules(1, other))

    def test_two_columns(self):
        lists = list(all_rules(2, 1)) + list(all_rules(2, 2))[20::9]
        for one, other in itertools.product(lists, repeat=2):
            self.hold(Rules(2, one), Rules(2, other))

    def test_thinned_is_alike(self):
        for columns, given in drawn_rules(324):
            rules = Rules(columns, given)
            thin = Rules(columns, thinned(rules))
            self.assertIs(type(self.hold(rules, thin)), Alike)
            self.assertIs(type(self.hold(thin, rules)), Alike)

    def test_at_chance(self):
        found = {Alike: 0, Apart: 0}
        for seed in range(400):
            columns = seed % 6 + 1
            one = some_rules(seed, columns, [1, 2, 3, 5][seed // 6 % 4])
            other = one + some_rules(seed + 9000, columns, seed % 3)
            random.Random(seed).shuffle(other)
            pair = [Rules(columns, one), Rules(columns, other[seed % 2:])]
            found[type(self.hold(*pair))] += 1
            self.hold(*pair[::-1])
        self.assertGreater(min(found.values()), 50)

    def test_refused(self):
        for one, other in itertools.permutations(range(1, 7), 2):
            for rules, others in [([], []), ([(1, 1)], [(1, 1)]), ([(0, 1)], []), ([], [(0, 1)])]:
                with self.assertRaises(Unlike):
                    alike(Rules(one, rules), Rules(other, others))

    def test_changes_nothing(self):
        one, other = Rules(3, [(1, 6), (2, 4)]), Rules(3, [(1, 2), (2, 4), (3, 4)])
        alike(one, other)
        self.assertEqual((one.rules(), other.rules()), ([(1, 6), (2, 4)], [(1, 2), (2, 4), (3, 4)]))

    def test_own_lists(self):
        one, other = Rules(3, [(1, 2), (1, 2)]), Rules(3, [(1, 2)] * 3)
        first, second = alike(one, other), alike(one, other)
        lists = [first.there, first.back, second.there, second.back]
        lists = lists + [places for some in lists for places in some]
        self.assertEqual(len({id(some) for some in lists}), len(lists))
        first.there[0].append(99)
        first.back.clear()
        self.assertEqual((second.there, second.back), ([[0], [0]], [[0], [0], [0]]))
        self.assertEqual(alike(one, other).there, [[0], [0]])

    def test_own_rows(self):
        one, other = Rules(2, [(1, 2)]), Rules(2, [])
        first, second = alike(one, other), alike(one, other)
        rows = [first.one, first.other, second.one, second.other]
        self.assertEqual(len({id(row) for row in rows}), 4)
        first.one[0] = first.other[0] = 50
        third = alike(one, other)
        self.assertEqual((third.one, third.other), (second.one, second.other))
