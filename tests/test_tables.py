import copy
import inspect
import itertools
import unittest

from tellscolumns.errors import BadParts, BadTable
from tellscolumns.rules import Rules
from tellscolumns.tables import broken, joined
from tests.helper import NO_NUMBERS, slow_joined, slow_keeps, some_parts, some_rules, some_table
from tests.helper import wrong_parts, wrong_tables


class Broken(unittest.TestCase):
    def test_arguments(self):
        self.assertEqual(list(inspect.signature(broken).parameters), ["rules", "table"])

    def test_ordinary(self):
        rules = Rules(3, [(1, 2), (2, 1), (1, 4), (3, 4), (0, 4)])
        table = [[1, 5, 0], [1, 5, 1], [2, 5, 0]]
        self.assertEqual(broken(rules, table), [1, 2, 3, 4])

    def test_the_left_of_several_columns(self):
        rules = Rules(3, [(3, 4)])
        self.assertEqual(broken(rules, [[1, 1, 1], [1, 2, 2], [2, 1, 3]]), [])
        self.assertEqual(broken(rules, [[1, 1, 1], [1, 2, 2], [1, 1, 3]]), [0])

    def test_the_right_of_several_columns(self):
        rules = Rules(3, [(1, 6)])
        self.assertEqual(broken(rules, [[1, 1, 1], [1, 1, 1]]), [])
        self.assertEqual(broken(rules, [[1, 1, 1], [1, 1, 2]]), [0])
        self.assertEqual(broken(rules, [[1, 1, 1], [1, 2, 1]]), [0])

    def test_empty_left_and_right(self):
        rules = Rules(2, [(0, 0), (0, 1), (3, 0), (1, 0), (0, 3)])
        self.assertEqual(broken(rules, [[1, 1], [2, 1]]), [1, 4])
        self.assertEqual(broken(rules, [[1, 1], [1, 1]]), [])

    def test_no_rows_and_one_row(self):
        for columns in range(1, 7):
            rules = Rules(columns, [(0, (1 << columns) - 1)] * 64)
            self.assertEqual(broken(rules, []), [])
            self.assertEqual(broken(rules, [[99] * columns]), [])
            self.assertEqual(broken(rules, [[0] * columns] * 64), [])
            self.assertEqual(broken(rules, [[0] * columns] * 63 + [[99] * columns]), list(range(64)))

    def test_no_rules(self):
        self.assertEqual(broken(Rules(1, []), [[0], [99]]), [])

    def test_numbers_across_columns_are_not_mixed(self):
        self.assertEqual(broken(Rules(2, [(1, 2)]), [[1, 2], [2, 1]]), [])
        self.assertEqual(broken(Rules(4, [(3, 4)]), [[1, 11, 0, 0], [11, 1, 1, 0]]), [])

    def test_first_and_last_of_64_rows(self):
        table = [[row, row % 2] for row in range(64)]
        self.assertEqual(broken(Rules(2, [(1, 2)]), table), [])
        table[63] = [0, 1]
        self.assertEqual(broken(Rules(2, [(1, 2)]), table), [0])

    def test_all_small_tables_of_two_columns(self):
        sets = list(itertools.product(range(4), repeat=2))
        rules = Rules(2, sets)
        rows = [list(row) for row in itertools.product(range(3), repeat=2)]
        for count in range(4):
            for table in itertools.product(rows, repeat=count):
                wanted = [place for place, rule in enumerate(sets) if not slow_keeps(table, rule)]
                self.assertEqual(broken(rules, list(table)), wanted, table)

    def test_at_chance(self):
        for seed in range(150):
            columns = seed % 6 + 1
            given = some_rules(seed, columns, [1, 5, 64][seed % 3])
            table = some_table(seed, columns, [2, 3, 5, 12][seed % 4], [1, 2, 99][seed % 3])
            wanted = [place for place, rule in enumerate(given) if not slow_keeps(table, rule)]
            self.assertEqual(broken(Rules(columns, given), table), wanted)

    def test_refused(self):
        rules = Rules(2, [(1, 2)])
        for table in wrong_tables():
            with self.assertRaises(BadTable, msg=repr(table)):
                broken(rules, table)

    def test_refused_without_rules_too(self):
        with self.assertRaises(BadTable):
            broken(Rules(2, []), [[1, 2], [1]])

    def test_handed_in_stays(self):
        rules = Rules(2, [(1, 2), (2, 1)])
        table = [[2, 1], [1, 1], [1, 0]]
        first = broken(rules, table)
        self.assertEqual(first, [0, 1])
        self.assertEqual(table, [[2, 1], [1, 1], [1, 0]])
        table[2][1] = 1
        self.assertEqual(first, [0, 1])
        self.assertEqual(broken(rules, table), [1])
        self.assertEqual(rules.rules(), [(1, 2), (2, 1)])

    def test_own_list(self):
        rules = Rules(2, [(1, 2)])
        table = [[1, 1], [1, 2]]
        first = broken(rules, table)
        self.assertIs(type(first), list)
        self.assertIsNot(first, broken(rules, table))
        first.clear()
        self.assertEqual(broken(rules, table), [0])


class Joined(unittest.TestCase):
    def test_arguments(self):
        self.assertEqual(list(inspect.signature(joined).parameters), ["columns", "table", "parts"])

    def test_ordinary(self):
        table = [[2, 1, 4], [1, 1, 3]]
        self.assertEqual(joined(3, table, [3, 6]), [[1, 1, 3], [1, 1, 4], [2, 1, 3], [2, 1, 4]])
        self.assertEqual(joined(3, table, [3, 5]), [[1, 1, 3], [2, 1, 4]])

    def test_parts_apart(self):
        self.assertEqual(joined(2, [[1, 9], [0, 8]], [1, 2]), [[0, 8], [0, 9], [1, 8], [1, 9]])

    def test_three_parts_that_overlap_each_other(self):
        table = [[0, 0, 1], [0, 1, 0], [1, 0, 0]]
        self.assertEqual(joined(3, table, [3, 6, 5]), [[0, 0, 0], [0, 0, 1], [0, 1, 0], [1, 0, 0]])

    def test_a_part_with_all_columns(self):
        table = [[5, 1], [0, 99], [5, 1]]
        for parts in [[3], [3, 1], [1, 2, 3], [3] * 64]:
            self.assertEqual(joined(2, table, parts), [[0, 99], [5, 1]])

    def test_alike_rows_are_told_once(self):
        self.assertEqual(joined(2, [[1, 2]] * 8, [1, 2]), [[1, 2]])

    def test_no_rows(self):
        for columns in range(1, 7):
            self.assertEqual(joined(columns, [], [(1 << columns) - 1]), [])

    def test_edges(self):
        self.assertEqual(joined(1, [[99], [0]], [1]), [[0], [99]])
        self.assertEqual(joined(1, [[99], [0]], [1] * 64), [[0], [99]])
        self.assertEqual(joined(6, [[0] * 6, [99] * 6], [7, 56]),
                         [[0] * 6, [0] * 3 + [99] * 3, [99] * 3 + [0] * 3, [99] * 6])
        self.assertEqual(joined(2, [[row, 0] for row in range(8)], [1, 2]), [[row, 0] for row in range(8)])

    def test_rising_by_number(self):
        self.assertEqual(joined(1, [[10], [9], [2]], [1]), [[2], [9], [10]])

    def test_the_most_rows(self):
        table = [[row] * 6 for row in range(7, -1, -1)]
        rows = joined(6, table, [1, 2, 4, 8, 16, 32])
        self.assertEqual(rows, [list(row) for row in itertools.product(range(8), repeat=6)])

    def test_8_rows_and_one_more(self):
        for columns in range(1, 7):
            whole = (1 << columns) - 1
            unlike = [[row] * columns for row in range(9)]
            alike = [[0] * columns] * 9
            self.assertEqual(joined(columns, unlike[:8], [whole]), unlike[:8])
            self.assertEqual(joined(columns, alike[:8], [whole]), alike[:1])
            for table in [unlike, alike]:
                for parts in [[whole], [1 << column for column in range(columns)], [whole] * 64]:
                    with self.assertRaises(BadTable):
                        joined(columns, table, parts)

    def test_more_than_8_rows_refused(self):
        for count in list(range(9, 67)) + [99, 1000]:
            for table in [[[row % 100, 0] for row in range(count)], [[1, 2]] * count]:
                for parts in [[3], [1, 2], [], [0], [1], None, (3,), [True]]:
                    with self.assertRaises(BadTable, msg=(count, parts)):
                        joined(2, table, parts)

    def test_all_small_tables_of_two_columns(self):
        rows = [list(row) for row in itertools.product(range(3), repeat=2)]
        for count in range(4):
            for table in itertools.product(rows, repeat=count):
                for parts in [[1, 2], [2, 1], [3], [1, 3], [2, 1, 2]]:
                    self.assertEqual(joined(2, list(table), parts), slow_joined(2, table, parts))

    def test_at_chance(self):
        for seed in range(200):
            columns = seed % 5 + 1
            table = some_table(seed, columns, seed % 9, [1, 2, 99][seed % 3])
            parts = some_parts(seed, columns, seed % 4 + 1)
            if columns == 5:
                table = table[:4]
            self.assertEqual(joined(columns, table, parts), slow_joined(columns, table, parts), (table, parts))

    def test_count_of_columns_refused(self):
        for columns in NO_NUMBERS + [0, 7, -1, 64, 10 ** 30]:
            for table in [[], [[]], [[0]], [[0] * 7]]:
                for parts in [[1], [], None]:
                    with self.assertRaises(BadTable, msg=repr(columns)):
                        joined(columns, table, parts)

    def test_table_refused(self):
        for table in wrong_tables():
            with self.assertRaises(BadTable, msg=repr(table)):
                joined(2, table, [3])

    def test_parts_refused(self):
        for parts in wrong_parts():
            for table in [[[1, 2]], []]:
                with self.assertRaises(BadParts, msg=repr(parts)):
                    joined(2, table, parts)

    def test_parts_just_beyond_the_columns(self):
        for columns in range(1, 7):
            with self.assertRaises(BadParts):
                joined(columns, [], [(1 << columns) - 1, 1 << columns])

    def test_a_column_in_no_part(self):
        for column in range(6):
            with self.assertRaises(BadParts):
                joined(6, [[0] * 6], [63 - (1 << column)])

    def test_the_table_is_refused_ahead_of_the_parts(self):
        for parts in [None, [], [0], [1], (3,), [True]]:
            for table in [None, [[1]], ([1, 2],), [[1, True]], [[0, 0]] * 9, [[0, 0]] * 64, [[0, 0]] * 65]:
                with self.assertRaises(BadTable):
                    joined(2, table, parts)
            with self.assertRaises(BadTable):
                joined(True, [[1]], parts)

    def test_handed_in_stays(self):
        table = [[2, 1], [1, 0], [2, 1]]
        parts = [2, 1, 2]
        first = joined(2, table, parts)
        wanted = copy.deepcopy(first)
        self.assertEqual((table, parts), ([[2, 1], [1, 0], [2, 1]], [2, 1, 2]))
        table[0][0] = 50
        table.append([7, 7])
        parts.append(3)
        self.assertEqual(first, wanted)
        self.assertEqual(joined(2, [[2, 1], [1, 0], [2, 1]], [2, 1, 2]), wanted)

    def test_own_lists(self):
        table = [[1, 2], [3, 4]]
        for parts in [[3], [1, 2]]:
            first = joined(2, table, parts)
            second = joined(2, table, parts)
            lists = [first, second, table] + first + second + table
            self.assertEqual(len({id(one) for one in lists}), len(lists))
            self.assertTrue(all(type(one) is list for one in lists))
            first[0][0] = 9
            self.assertEqual(joined(2, table, parts), second)
            self.assertEqual(table, [[1, 2], [3, 4]])
