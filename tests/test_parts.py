import inspect
import itertools
import random
import unittest

from tellscolumns.answers import Back, Lost
from tellscolumns.errors import BadParts
from tellscolumns.examples import example
from tellscolumns.parts import across, comes_back, cut
from tellscolumns.rules import Rules
from tests.helper import all_rules, columns_of, drawn_rules, slow_back, slow_joined, slow_keeps, slow_lost
from tests.helper import slow_tells, small_tables, some_parts, some_rules, wrong_parts


def all_parts(columns, most):
    """All lists of at most so many parts."""
    whole = (1 << columns) - 1
    for count in range(1, most + 1):
        for parts in itertools.product(range(1, whole + 1), repeat=count):
            if {column for part in parts for column in columns_of(part)} == set(columns_of(whole)):
                yield list(parts)


def subsets(whole):
    return [some for some in range(whole + 1) if some | whole == whole]


def slow_across(columns, given, parts):
    tells = slow_tells(columns, given)
    within = []
    for part in sorted(set(parts)):
        for left, right in itertools.product(subsets(part), repeat=2):
            if not right & ~tells[left]:
                within.append((left, right))
    told = slow_tells(columns, within)
    return [place for place, (left, right) in enumerate(given) if right & ~told[left]]


class ComesBack(unittest.TestCase):
    def hold(self, rules, parts):
        answer = comes_back(rules, list(parts))
        self.assertIs(answer.shows(rules, parts), True)
        if isinstance(answer, Back):
            self.assertIs(type(answer), Back)
            self.hold_steps(answer.steps, rules, parts)
        else:
            self.assertIs(type(answer), Lost)
            self.hold_table(answer, rules, parts)
        return answer

    def hold_steps(self, steps, rules, parts):
        for step in steps:
            self.assertIs(type(step), tuple)
            self.assertEqual([type(place) for place in step], [int, int, int])
            self.assertGreaterEqual(min(step), 0)
        self.assertTrue(slow_back(steps, rules, parts))

    def hold_table(self, answer, rules, parts):
        self.assertLessEqual(len(answer.table), 64)
        for row in answer.table + [answer.row]:
            self.assertIs(type(row), list)
            self.assertEqual([type(number) for number in row], [int] * rules.columns)
            self.assertTrue(0 <= min(row) and max(row) <= 99)
        self.assertTrue(slow_lost(answer.table, answer.row, rules, parts))

    def test_arguments(self):
        self.assertEqual(list(inspect.signature(comes_back).parameters), ["rules", "parts"])

    def test_ordinary(self):
        self.assertEqual(self.hold(Rules(3, [(2, 4)]), [3, 6]).steps, [(0, 0, 1)])
        self.assertIsInstance(self.hold(Rules(3, [(2, 1)]), [3, 6]), Back)
        self.assertIsInstance(self.hold(Rules(3, [(1, 2), (4, 2)]), [3, 6]), Lost)

    def test_several_steps_that_build_on_others(self):
        rules = Rules(5, [(1, 4), (2, 4), (4, 8), (24, 4), (20, 1)])
        self.assertIsInstance(self.hold(rules, [9, 3, 18, 28, 17]), Back)
        self.assertIsInstance(self.hold(rules, [9, 3, 18, 28]), Lost)

    def test_rules_in_any_turn(self):
        given = [(1, 4), (2, 4), (4, 8), (24, 4), (20, 1)]
        for turned in itertools.permutations(given):
            self.assertIsInstance(self.hold(Rules(5, list(turned)), [9, 3, 18, 28, 17]), Back)

    def test_a_part_with_all_columns(self):
        for columns in range(1, 7):
            whole = (1 << columns) - 1
            for given in [[], [(0, whole)] * 64]:
                for parts in [[whole], [whole] * 64, [1, whole], [whole] + [1] * 63]:
                    self.assertIsInstance(self.hold(Rules(columns, given), parts), Back)

    def test_one_part(self):
        for columns, given in drawn_rules(54):
            self.assertEqual(self.hold(Rules(columns, given), [(1 << columns) - 1]).steps, [])

    def test_no_rules(self):
        self.assertIsInstance(self.hold(Rules(2, []), [1, 2]), Lost)
        self.assertIsInstance(self.hold(Rules(6, []), [31, 62, 63 - 4]), Lost)

    def test_an_empty_left(self):
        self.assertIsInstance(self.hold(Rules(2, [(0, 2)]), [1, 2]), Back)
        self.assertIsInstance(self.hold(Rules(3, [(0, 2)]), [1, 2, 4]), Lost)
        self.assertIsInstance(self.hold(Rules(3, [(0, 6)]), [1, 2, 4]), Back)
        self.assertIsInstance(self.hold(Rules(6, [(0, 63)]), [1, 2, 4, 8, 16, 32]), Back)

    def test_a_left_and_right_that_overlap(self):
        self.assertIsInstance(self.hold(Rules(3, [(2, 6)]), [3, 6]), Back)
        self.assertIsInstance(self.hold(Rules(3, [(6, 7), (3, 2)]), [3, 6]), Lost)

    def test_rows_alike_that_are_not_0(self):
        # Only the third part has the last column; the first two get alike in it without 0 and then fall together.
        rules = Rules(4, [(1, 8), (2, 8), (1, 2)])
        self.assertIsInstance(self.hold(rules, [1 | 4, 1 | 2, 2 | 8]), Back)

    def test_64_parts(self):
        singles = [1, 2, 4, 8, 16, 32]
        parts = singles + [1 << place % 6 for place in range(58)]
        answer = self.hold(Rules(6, []), parts)
        self.assertIsInstance(answer, Lost)
        self.assertIsInstance(self.hold(Rules(6, [(0, 62)]), parts), Back)
        self.assertIsInstance(self.hold(Rules(6, [(1, 62)]), parts), Lost)
        self.assertIsInstance(self.hold(Rules(6, [(1, 62)] * 64), [1] * 63 + [63 - 1]), Lost)
        self.assertIsInstance(self.hold(Rules(6, [(1, 62)] * 64), [3] * 63 + [63 - 2]), Back)
        chain = [(16, 32), (8, 16), (4, 8), (2, 4), (1, 2)]
        self.assertIsInstance(self.hold(Rules(6, chain), [3, 6, 12, 24] * 15 + [48, 33, 5, 10]), Back)

    def test_64_parts_at_chance(self):
        found = {Back: 0, Lost: 0}
        for seed in range(24):
            given = some_rules(seed, 6, [2, 4, 9, 64][seed % 4])
            chance = random.Random(seed)
            parts = [1 << place for place in range(6)]
            parts += [sum({1 << chance.randrange(6) for _ in range(2)}) for _ in range(58)]
            found[type(self.hold(Rules(6, given), parts))] += 1
        self.assertGreater(min(found.values()), 2)

    def test_one_column(self):
        for given in all_rules(1, 2):
            for parts in all_parts(1, 3):
                self.assertIsInstance(self.hold(Rules(1, given), parts), Back)

    def test_two_columns(self):
        for given in all_rules(2, 2):
            for parts in all_parts(2, 3):
                self.hold(Rules(2, given), parts)

    def test_at_chance(self):
        found = {Back: 0, Lost: 0}
        for seed, (columns, given) in enumerate(drawn_rules(648)):
            parts = some_parts(seed, columns, seed % 5 + 1)
            found[type(self.hold(Rules(columns, given), parts))] += 1
        self.assertGreater(min(found.values()), 50)

    def test_each_small_table_comes_back(self):
        tables = list(small_tables(3, 3, 1))
        found = {True: 0, False: 0}
        for seed in range(40):
            given = some_rules(seed, 3, seed % 3 + 1)
            parts = some_parts(seed + 300, 3, 2)
            kept = [table for table in tables if all(slow_keeps(table, rule) for rule in given)]
            all_back = all(slow_joined(3, table, parts) == sorted(table) for table in kept)
            back = isinstance(comes_back(Rules(3, given), parts), Back)
            self.assertEqual(back, all_back, (given, parts))
            found[back] += 1
        self.assertGreater(min(found.values()), 4)

    def test_refused(self):
        for rules in [Rules(2, []), Rules(2, [(0, 3)])]:
            for parts in wrong_parts():
                with self.assertRaises(BadParts, msg=repr(parts)):
                    comes_back(rules, parts)

    def test_just_beyond_the_columns(self):
        for columns in range(1, 7):
            with self.assertRaises(BadParts):
                comes_back(Rules(columns, []), [(1 << columns) - 1, 1 << columns])

    def test_a_column_in_no_part(self):
        for column in range(6):
            with self.assertRaises(BadParts):
                comes_back(Rules(6, [(0, 63)]), [63 - (1 << column)])

    def test_handed_in_stays(self):
        for given in [[(2, 4), (1, 4)], [(1, 2)]]:
            rules, parts = Rules(3, given), [3, 6]
            answer = comes_back(rules, parts)
            self.assertEqual((rules.rules(), parts), (given, [3, 6]))
            parts.append(7)
            parts[0] = 1
            self.assertIs(answer.shows(rules, [3, 6]), True)

    def test_own_lists(self):
        rules = Rules(3, [(1, 2)])
        first, second = comes_back(rules, [3, 6]), comes_back(rules, [3, 6])
        lists = [first.table, first.row, second.table, second.row] + first.table + second.table
        self.assertEqual(len({id(some) for some in lists}), len(lists))
        first.table[0][0] = first.row[0] = 50
        first.table.pop()
        third = comes_back(rules, [3, 6])
        self.assertEqual((third.table, third.row), (second.table, second.row))

    def test_own_steps(self):
        rules = Rules(3, [(2, 4)])
        first = comes_back(rules, [3, 6])
        first.steps.clear()
        self.assertEqual(comes_back(rules, [3, 6]).steps, [(0, 0, 1)])


class Across(unittest.TestCase):
    def hold(self, columns, given, parts):
        places = across(Rules(columns, given), list(parts))
        self.assertIs(type(places), list)
        self.assertEqual(places, slow_across(columns, given, parts), (given, parts))
        return places

    def test_arguments(self):
        self.assertEqual(list(inspect.signature(across).parameters), ["rules", "parts"])

    def test_ordinary(self):
        self.assertEqual(self.hold(3, [(3, 4), (4, 1)], [5, 6]), [0])
        self.assertEqual(self.hold(3, [(4, 1), (3, 4)], [5, 6]), [1])
        self.assertEqual(self.hold(3, [(3, 4), (4, 1)], [7]), [])
        self.assertEqual(self.hold(3, [(1, 2), (1, 4)], [3, 4]), [1])

    def test_through_several_parts(self):
        self.assertEqual(self.hold(3, [(1, 2), (2, 4), (1, 4)], [3, 6]), [])
        self.assertEqual(self.hold(4, [(1, 2), (2, 4), (4, 8), (1, 8)], [12, 6, 3]), [])
        self.assertEqual(self.hold(4, [(1, 2), (2, 4), (4, 8), (1, 8)], [3, 6, 12]), [])

    def test_rules_that_follow_count_too(self):
        self.assertEqual(self.hold(3, [(1, 2), (2, 4), (4, 1)], [3, 6]), [])
        self.assertEqual(self.hold(3, [(1, 4), (4, 2)], [3, 4]), [0, 1])
        self.assertEqual(self.hold(4, [(1, 8), (8, 2)], [7, 8]), [0, 1])
        self.assertEqual(self.hold(4, [(1, 8), (8, 2), (1, 2)], [7, 8]), [0, 1])

    def test_what_holds_anyway_never_goes_across(self):
        self.assertEqual(self.hold(3, [(7, 7), (0, 0), (5, 4), (6, 0), (3, 3)], [1, 2, 4]), [])

    def test_each_place_of_rules_alike(self):
        self.assertEqual(self.hold(2, [(1, 2), (0, 0), (1, 2), (1, 3)], [1, 2]), [0, 2, 3])

    def test_a_right_within_and_beyond(self):
        self.assertEqual(self.hold(3, [(1, 6), (1, 2)], [3, 4]), [0])

    def test_an_empty_left(self):
        self.assertEqual(self.hold(2, [(0, 3)], [1, 2]), [])
        self.assertEqual(self.hold(3, [(0, 1), (1, 6)], [1, 2, 4]), [])

    def test_edges(self):
        for columns in [1, 6]:
            whole = (1 << columns) - 1
            singles = [1 << column for column in range(columns)]
            for parts in [[whole], [whole] * 64, singles, singles + [1] * (64 - columns)]:
                self.assertEqual(self.hold(columns, [], parts), [])
                self.hold(columns, [(1, whole)] * 64, parts)
                self.hold(columns, [(whole, whole), (0, whole), (0, 0)], parts)
        singles = [1, 2, 4, 8, 16, 32]
        self.assertEqual(self.hold(6, [(1, 2)] * 64, singles + [1] * 58), list(range(64)))
        self.assertEqual(self.hold(6, [(1, 2)] * 64, singles + [1] * 57 + [3]), [])

    def test_one_column(self):
        for given in all_rules(1, 2):
            for parts in all_parts(1, 3):
                self.assertEqual(self.hold(1, given, parts), [])

    def test_two_columns(self):
        for given in all_rules(2, 2):
            for parts in all_parts(2, 2):
                self.hold(2, given, parts)

    def test_at_chance(self):
        some = 0
        for seed, (columns, given) in enumerate(drawn_rules(432)):
            some += self.hold(columns, given, some_parts(seed, columns, seed % 4 + 1)) != []
        self.assertGreater(some, 50)

    def test_refused(self):
        for rules in [Rules(2, []), Rules(2, [(0, 3)])]:
            for parts in wrong_parts():
                with self.assertRaises(BadParts, msg=repr(parts)):
                    across(rules, parts)

    def test_just_beyond_the_columns(self):
        for columns in range(1, 7):
            with self.assertRaises(BadParts):
                across(Rules(columns, []), [(1 << columns) - 1, 1 << columns])

    def test_handed_in_stays(self):
        rules, parts = Rules(3, [(3, 4), (4, 1)]), [6, 5, 6]
        first = across(rules, parts)
        self.assertEqual((rules.rules(), parts), ([(3, 4), (4, 1)], [6, 5, 6]))
        parts[0] = 7
        self.assertEqual(first, [0])
        self.assertEqual(across(rules, parts), [])

    def test_own_list(self):
        rules = Rules(3, [(3, 4), (4, 1)])
        first = across(rules, [5, 6])
        self.assertIsNot(first, across(rules, [5, 6]))
        first.clear()
        self.assertEqual(across(rules, [5, 6]), [0])


class Cut(unittest.TestCase):
    def hold(self, columns, given):
        parts = cut(Rules(columns, given))
        whole = (1 << columns) - 1
        self.assertIs(type(parts), list)
        self.assertTrue(all(type(part) is int and 0 < part <= whole for part in parts))
        self.assertEqual(parts, sorted(set(parts)))
        self.assertEqual({column for part in parts for column in columns_of(part)}, set(range(columns)))
        answer = comes_back(Rules(columns, given), parts)
        self.assertIsInstance(answer, Back, given)
        self.assertTrue(slow_back(answer.steps, Rules(columns, given), parts))
        tells = slow_tells(columns, given)
        for part in parts:
            for some in subsets(part):
                self.assertIn(tells[some] & part, [some, part], (given, part, some))
        return parts

    def test_arguments(self):
        self.assertEqual(list(inspect.signature(cut).parameters), ["rules"])

    def test_ordinary(self):
        self.assertEqual(self.hold(3, [(3, 4), (4, 1)]), [5, 6])
        self.assertEqual(self.hold(3, [(1, 2)]), [3, 5])

    def test_nothing_to_cut(self):
        for columns in range(1, 7):
            whole = (1 << columns) - 1
            for given in [[], [(0, whole)], [(1, whole)], [(whole, whole)] * 64, [(0, 0)], [(0, whole)] * 64]:
                self.assertEqual(self.hold(columns, given), [whole])

    def test_what_the_empty_set_tells_is_apart(self):
        self.assertEqual(self.hold(2, [(0, 1)]), [1, 2])
        self.assertEqual(self.hold(3, [(0, 5)]), [2, 5])

    def test_a_chain(self):
        chain = [(1, 2), (2, 4), (4, 8), (8, 16), (16, 32)]
        self.hold(6, chain)
        self.hold(6, chain[::-1])
        self.hold(6, [(right, left) for left, right in chain])

    def test_by_a_rule_that_only_follows_within_a_part(self):
        self.hold(4, [(1, 8), (8, 2)])
        self.hold(5, [(1, 2), (6, 8), (9, 16)])

    def test_one_column(self):
        for given in all_rules(1, 3):
            self.assertEqual(self.hold(1, given), [1])

    def test_two_columns(self):
        for given in all_rules(2, 2):
            self.hold(2, given)

    def test_three_columns(self):
        for given in list(all_rules(3, 2))[::3]:
            self.hold(3, given)

    def test_at_chance(self):
        for columns, given in drawn_rules(324):
            self.hold(columns, given)

    def test_into_several_parts_at_chance(self):
        several = 0
        for seed in range(300):
            columns = seed % 3 + 4
            chance = random.Random(seed)
            singles = [1 << column for column in range(columns)]
            given = [(chance.choice(singles) | chance.choice(singles), chance.choice(singles))
                     for _ in range(seed % 5 + 2)]
            several += len(self.hold(columns, given)) > 2
        self.assertGreater(several, 50)

    def test_tables_come_back(self):
        for columns, given in drawn_rules(324):
            table = example(Rules(columns, given))[-4:]
            parts = cut(Rules(columns, given))
            self.assertEqual(slow_joined(columns, table, parts), sorted(table))

    def test_changes_nothing(self):
        rules = Rules(3, [(3, 4), (4, 1)])
        cut(rules)
        self.assertEqual((rules.columns, rules.rules()), (3, [(3, 4), (4, 1)]))

    def test_own_list(self):
        rules = Rules(3, [(1, 2)])
        first = cut(rules)
        self.assertIsNot(first, cut(rules))
        first.clear()
        self.assertEqual(cut(rules), [3, 5])
