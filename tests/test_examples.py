import inspect
import itertools
import unittest

from tellscolumns.errors import BadTable
from tellscolumns.examples import example, found_in
from tellscolumns.rules import Rules
from tests.helper import NO_NUMBERS, all_rules, alikes, drawn_rules, fault_in_thin, lean_rules, slow_keeps, slow_tells
from tests.helper import slow_tells_in, small_tables, some_rules, some_table, wrong_tables


class Example(unittest.TestCase):
    def hold(self, columns, given):
        table = example(Rules(columns, given))
        self.assertIs(type(table), list)
        self.assertLessEqual(len(table), 64)
        for row in table:
            self.assertIs(type(row), list)
            self.assertEqual([type(number) for number in row], [int] * columns)
            self.assertTrue(0 <= min(row) and max(row) <= 99)
        self.assertEqual(slow_tells_in(columns, table), slow_tells(columns, given), given)
        return table

    def test_arguments(self):
        self.assertEqual(list(inspect.signature(example).parameters), ["rules"])

    def test_ordinary(self):
        table = self.hold(3, [(1, 2)])
        self.assertTrue(slow_keeps(table, (1, 2)))
        for rule in [(0, 1), (0, 2), (0, 4), (1, 4), (2, 1), (2, 4), (3, 4), (4, 1), (4, 2), (6, 1)]:
            self.assertFalse(slow_keeps(table, rule), rule)

    def test_each_rule_of_each_two_rows(self):
        for columns, given in drawn_rules(324):
            if columns < 4:
                table = example(Rules(columns, given))
                tells = slow_tells(columns, given)
                for left, right in itertools.product(range(1 << columns), repeat=2):
                    self.assertEqual(slow_keeps(table, (left, right)), not right & ~tells[left])

    def test_no_rules(self):
        for columns in range(1, 7):
            self.hold(columns, [])
            self.hold(columns, [((1 << columns) - 1, 1)] * 64)

    def test_all_follows(self):
        for columns in range(1, 7):
            table = self.hold(columns, [(0, (1 << columns) - 1)] * 64)
            self.assertEqual(alikes(table), [(1 << columns) - 1] if table else [])

    def test_one_column(self):
        for given in all_rules(1, 3):
            self.hold(1, given)

    def test_two_columns(self):
        for given in all_rules(2, 2):
            self.hold(2, given)

    def test_at_chance(self):
        for columns, given in drawn_rules(324):
            self.hold(columns, given)

    def test_six_columns_at_chance(self):
        for seed in range(150):
            self.hold(6, [some_rules, lean_rules][seed % 2](seed, 6, [1, 2, 3, 4, 5, 8, 16, 64][seed % 8]))

    def test_each_one_rule_of_six_columns(self):
        for left in range(64):
            self.hold(6, [(left, 63 - left)])
            self.hold(6, [(63 - left, 1)])

    def test_the_most_that_tell_all(self):
        for size in range(7):
            self.hold(6, [(some, 63) for some in range(64) if bin(some).count("1") == size])

    def test_changes_nothing(self):
        rules = Rules(3, [(3, 4), (4, 1)])
        example(rules)
        self.assertEqual((rules.columns, rules.rules()), (3, [(3, 4), (4, 1)]))

    def test_own_lists(self):
        rules = Rules(3, [(1, 2)])
        first, second = example(rules), example(rules)
        lists = [first, second] + first + second
        self.assertEqual(len({id(some) for some in lists}), len(lists))
        first[0][0] = 50
        first.pop()
        self.assertEqual(example(rules), second)


class FoundIn(unittest.TestCase):
    def hold(self, columns, table):
        found = found_in(columns, table)
        self.assertIs(type(found), list)
        for rule in found:
            self.assertIs(type(rule), tuple)
            self.assertEqual([type(some) for some in rule], [int, int])
        self.assertEqual(slow_tells(columns, found), slow_tells_in(columns, table), table)
        self.assertIsNone(fault_in_thin(columns, found), table)
        return found

    def test_arguments(self):
        self.assertEqual(list(inspect.signature(found_in).parameters), ["columns", "table"])

    def test_ordinary(self):
        self.assertEqual(self.hold(3, [[1, 5, 0], [1, 5, 1], [2, 5, 0]]), [(0, 2)])
        self.assertEqual(self.hold(2, [[1, 5], [1, 5], [2, 5]]), [(0, 2)])
        self.assertEqual(self.hold(2, [[1, 5], [2, 5], [3, 6]]), [(1, 2)])
        self.assertEqual(self.hold(2, [[1, 5], [2, 6], [3, 7]]), [(1, 2), (2, 1)])
        self.assertEqual(self.hold(2, [[1, 5], [1, 6], [2, 5]]), [])
        self.assertEqual(self.hold(3, [[0, 0, 0], [0, 1, 1], [1, 0, 1], [1, 1, 0]]), [(3, 4), (5, 2), (6, 1)])

    def test_each_rule_that_is_kept(self):
        for table in list(small_tables(2, 4, 2))[::3]:
            tells = slow_tells(2, found_in(2, table))
            for left, right in itertools.product(range(4), repeat=2):
                self.assertEqual(slow_keeps(table, (left, right)), not right & ~tells[left], table)

    def test_no_rows_and_one_row(self):
        for columns in range(1, 7):
            whole = (1 << columns) - 1
            for table in [[], [[0] * columns], [[99] * columns], [list(range(columns))], [[7] * columns] * 64]:
                self.assertEqual(self.hold(columns, table), [(0, whole)])

    def test_one_column(self):
        self.assertEqual(self.hold(1, [[0], [0]]), [(0, 1)])
        self.assertEqual(self.hold(1, [[0], [99]]), [])

    def test_64_rows(self):
        every = [list(row) for row in itertools.product([0, 1], repeat=6)]
        self.assertEqual(self.hold(6, every), [])
        rows = [[number] * 6 for number in range(64)]
        self.assertEqual(len(self.hold(6, rows)), 6)
        self.assertEqual(self.hold(2, [[0, 0]] * 63 + [[0, 1]]), [(0, 1)])
        self.assertEqual(self.hold(3, [[0, 0, 0]] * 63 + [[0, 1, 1]]), [(0, 1), (2, 4), (4, 2)])

    def test_all_small_tables(self):
        for table in small_tables(3, 4, 1):
            self.hold(3, table)
        for table in small_tables(2, 3, 2):
            self.hold(2, table)

    def test_at_chance(self):
        for seed in range(120):
            columns = seed % 6 + 1
            count = [2, 3, 5, 9, 20, 64][seed // 6 % 6]
            self.hold(columns, some_table(seed, columns, count, [1, 2, 5, 99][seed % 4]))

    def test_from_an_example(self):
        for columns, given in drawn_rules(108):
            found = self.hold(columns, example(Rules(columns, given)))
            self.assertEqual(slow_tells(columns, found), slow_tells(columns, given))

    def test_table_refused(self):
        for table in wrong_tables():
            with self.assertRaises(BadTable, msg=repr(table)):
                found_in(2, table)

    def test_count_of_columns_refused(self):
        for columns in NO_NUMBERS + [0, 7, -1, 64, 10 ** 30, -10 ** 30]:
            for table in [[], [[]], [[0]], [[0] * 7], None]:
                with self.assertRaises(BadTable, msg=repr(columns)):
                    found_in(columns, table)

    def test_rows_of_another_length(self):
        for columns in range(1, 7):
            for length in range(8):
                if length != columns:
                    with self.assertRaises(BadTable):
                        found_in(columns, [[0] * columns, [0] * length])

    def test_handed_in_stays(self):
        table = [[2, 1], [1, 1], [2, 1]]
        first = found_in(2, table)
        self.assertEqual(table, [[2, 1], [1, 1], [2, 1]])
        table[0][1] = 5
        table.pop()
        self.assertEqual(first, [(0, 2)])
        self.assertEqual(found_in(2, [[2, 1], [1, 1], [2, 1]]), [(0, 2)])

    def test_own_list(self):
        table = [[1, 5], [2, 5], [3, 6]]
        first = found_in(2, table)
        self.assertIsNot(first, found_in(2, table))
        first.clear()
        self.assertEqual(found_in(2, table), [(1, 2)])
