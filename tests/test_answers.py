import inspect
import itertools
import random
import unittest

from tellscolumns.answers import Alike, Answer, Apart, Back, Lost, Rows, Steps
from tellscolumns.rules import Rules, told
from tellscolumns.tables import joined
from tests.helper import slow_back, slow_keeps, slow_lost, slow_rows, slow_steps, slow_told
from tests.helper import small_tables, some_parts, some_rules, some_table


def lists_of_steps(rules, others):
    """For at most two rules each; a place that there isn't where no steps lead there."""
    tries = [[], [0], [1], [0, 1], [1, 0]]
    return [next((places for places in tries if Steps(places).shows(others, *rule)), [99]) for rule in rules.rules()]


class Kinds(unittest.TestCase):
    def test_bases(self):
        self.assertEqual(Answer.__bases__, (object,))
        for kind in [Steps, Rows, Alike, Apart, Back, Lost]:
            self.assertEqual(kind.__bases__, (Answer,), kind)

    def test_arguments(self):
        fields = {Steps: ["places"], Rows: ["one", "other"], Alike: ["there", "back"],
                  Apart: ["side", "place", "one", "other"], Back: ["steps"], Lost: ["table", "row"]}
        asked = {Steps: ["rules", "left", "right"], Rows: ["rules", "left", "right"], Alike: ["one", "other"],
                 Apart: ["one", "other"], Back: ["rules", "parts"], Lost: ["rules", "parts"]}
        for kind, names in fields.items():
            self.assertEqual(list(inspect.signature(kind).parameters), names)
            self.assertEqual(list(inspect.signature(kind.shows).parameters), ["self"] + asked[kind])

    def test_fields(self):
        self.assertEqual(Steps([3, 99, 3]).places, [3, 99, 3])
        rows = Rows([1, 2], [])
        self.assertEqual((rows.one, rows.other), ([1, 2], []))
        alike = Alike([[1], []], [])
        self.assertEqual((alike.there, alike.back), ([[1], []], []))
        apart = Apart(1, 99, [0], [1, 2])
        self.assertEqual((apart.side, apart.place, apart.one, apart.other), (1, 99, [0], [1, 2]))
        self.assertEqual(Back([(0, 1, 2)]).steps, [(0, 1, 2)])
        lost = Lost([[1, 2], [3]], [4])
        self.assertEqual((lost.table, lost.row), ([[1, 2], [3]], [4]))

    def test_fields_are_copies(self):
        one, other, lists, more = [1, 2], [3, 4], [[1], [2]], [[3]]
        steps = [(0, 0, 1)]
        made = [Steps(one), Rows(one, other), Alike(lists, more), Apart(0, 0, one, other), Back(steps),
                Lost(lists, one)]
        self.assertEqual((one, other, lists, more, steps), ([1, 2], [3, 4], [[1], [2]], [[3]], [(0, 0, 1)]))
        one.append(9)
        other[0] = 9
        lists[0].append(9)
        lists.pop()
        more[0][0] = 9
        steps.clear()
        self.assertEqual(made[0].places, [1, 2])
        self.assertEqual((made[1].one, made[1].other), ([1, 2], [3, 4]))
        self.assertEqual((made[2].there, made[2].back), ([[1], [2]], [[3]]))
        self.assertEqual((made[3].one, made[3].other), ([1, 2], [3, 4]))
        self.assertEqual(made[4].steps, [(0, 0, 1)])
        self.assertEqual((made[5].table, made[5].row), ([[1], [2]], [1, 2]))

    def test_one_list_handed_in_twice_makes_two(self):
        row = [1, 2]
        rows = Rows(row, row)
        apart = Apart(0, 0, row, row)
        lost = Lost([row, row], row)
        alike = Alike([row, row], [row])
        lists = [rows.one, rows.other, apart.one, apart.other, lost.row, row]
        lists += lost.table + alike.there + alike.back
        self.assertEqual(len({id(one) for one in lists}), len(lists))

    def test_fields_of_one_answer_handed_to_another(self):
        first = Lost([[1, 2]], [3, 4])
        second = Lost(first.table, first.row)
        first.table[0][0] = 9
        first.row[0] = 9
        self.assertEqual((second.table, second.row), ([[1, 2]], [3, 4]))


class StepsShows(unittest.TestCase):
    def setUp(self):
        self.rules = Rules(4, [(1, 2), (3, 4), (4, 8)])

    def test_true(self):
        self.assertIs(Steps([0, 1, 2]).shows(self.rules, 1, 8), True)
        self.assertIs(Steps([0, 1, 2]).shows(self.rules, 1, 15), True)
        self.assertIs(Steps([0]).shows(self.rules, 1, 3), True)
        self.assertIs(Steps([2]).shows(self.rules, 4, 8), True)

    def test_the_left_itself_counts(self):
        self.assertIs(Steps([]).shows(self.rules, 3, 2), True)
        self.assertIs(Steps([]).shows(self.rules, 15, 15), True)
        self.assertIs(Steps([]).shows(self.rules, 0, 0), True)

    def test_more_steps_than_needed_and_twice_the_same(self):
        self.assertIs(Steps([0, 0, 1, 2, 2]).shows(self.rules, 1, 2), True)

    def test_false(self):
        self.assertIs(Steps([]).shows(self.rules, 1, 2), False)
        self.assertIs(Steps([0, 1]).shows(self.rules, 1, 8), False)
        self.assertIs(Steps([0, 1]).shows(self.rules, 1, 12), False)

    def test_a_left_that_does_not_stand_yet(self):
        self.assertIs(Steps([1, 0, 2]).shows(self.rules, 1, 8), False)
        self.assertIs(Steps([0, 2]).shows(self.rules, 1, 2), False)
        self.assertIs(Steps([1]).shows(self.rules, 1, 1), False)

    def test_places_that_there_are_not(self):
        for place in [3, 4, 99]:
            self.assertIs(Steps([place]).shows(self.rules, 15, 15), False)
            self.assertIs(Steps([0, place]).shows(self.rules, 1, 2), False)
        self.assertIs(Steps([0]).shows(Rules(1, []), 1, 1), False)

    def test_a_rule_with_an_empty_left(self):
        self.assertIs(Steps([0]).shows(Rules(1, [(0, 1)]), 0, 1), True)

    def test_the_last_of_64_rules(self):
        rules = Rules(6, [(63, 0)] * 63 + [(1, 62)])
        self.assertIs(Steps([63]).shows(rules, 1, 63), True)
        self.assertIs(Steps([64]).shows(rules, 1, 63), False)

    def test_fields_put_anew(self):
        answer = Steps([0])
        self.assertIs(answer.shows(self.rules, 1, 4), False)
        answer.places.append(1)
        self.assertIs(answer.shows(self.rules, 1, 4), True)
        answer.places = []
        self.assertIs(answer.shows(self.rules, 1, 4), False)

    def test_at_chance(self):
        chance = random.Random(3)
        for seed in range(3000):
            columns = seed % 4 + 1
            rules = Rules(columns, some_rules(seed, columns, seed % 5))
            places = [chance.choice([0, 1, 2, 3, 4, 5]) for _ in range(chance.randint(0, 4))]
            left, right = chance.randrange(1 << columns), chance.randrange(1 << columns)
            wanted = slow_steps(places, rules, left, right)
            self.assertIs(Steps(places).shows(rules, left, right), wanted)


class RowsShows(unittest.TestCase):
    def test_true(self):
        rules = Rules(3, [(1, 2)])
        self.assertIs(Rows([0, 0, 0], [0, 0, 1]).shows(rules, 1, 4), True)
        self.assertIs(Rows([0, 0, 0], [0, 0, 1]).shows(rules, 3, 6), True)
        self.assertIs(Rows([99, 1, 0], [99, 1, 99]).shows(rules, 1, 4), True)

    def test_without_rules_and_with_empty_left(self):
        self.assertIs(Rows([0], [99]).shows(Rules(1, []), 0, 1), True)
        self.assertIs(Rows([0], [0]).shows(Rules(1, []), 0, 1), False)
        self.assertIs(Rows([0], [1]).shows(Rules(1, []), 0, 0), False)
        self.assertIs(Rows([0], [1]).shows(Rules(1, []), 1, 1), False)

    def test_a_rule_broken(self):
        rules = Rules(3, [(2, 2), (1, 2)])
        self.assertIs(Rows([0, 0, 0], [0, 1, 1]).shows(rules, 1, 4), False)

    def test_not_alike_in_the_left(self):
        rules = Rules(3, [(1, 2)])
        self.assertIs(Rows([0, 0, 0], [1, 0, 1]).shows(rules, 1, 4), False)
        self.assertIs(Rows([0, 0, 0], [0, 1, 1]).shows(Rules(3, []), 3, 4), False)

    def test_alike_in_the_right(self):
        rules = Rules(3, [(1, 2)])
        self.assertIs(Rows([0, 0, 0], [0, 0, 1]).shows(rules, 1, 2), False)

    def test_rows_of_any_length(self):
        rules = Rules(2, [])
        for one, other in [([], []), ([0], [0]), ([0, 0], [0]), ([0], [0, 1]), ([0, 0, 0], [0, 1, 0]),
                           ([0, 0, 0], [0, 1]), ([0, 0], [0, 1, 0]), ([0] * 99, [0, 1] * 50), ([0, 0], [])]:
            self.assertIs(Rows(one, other).shows(rules, 1, 2), False, (one, other))
        self.assertIs(Rows([0, 0], [0, 1]).shows(rules, 1, 2), True)

    def test_fields_put_anew(self):
        rules = Rules(2, [])
        answer = Rows([0, 0], [0, 0])
        self.assertIs(answer.shows(rules, 1, 2), False)
        answer.other[1] = 1
        self.assertIs(answer.shows(rules, 1, 2), True)
        answer.one = [0, 1]
        self.assertIs(answer.shows(rules, 1, 2), False)
        answer.one = [0, 0, 0]
        self.assertIs(answer.shows(rules, 1, 2), False)

    def test_at_chance(self):
        chance = random.Random(4)
        for seed in range(3000):
            columns = seed % 4 + 1
            rules = Rules(columns, some_rules(seed, columns, seed % 4))
            one, other = [[chance.randint(0, 1) for _ in range(columns + chance.choice([0] * 8 + [-1, 1]))]
                          for _ in range(2)]
            left, right = chance.randrange(1 << columns), chance.randrange(1 << columns)
            wanted = slow_rows(one, other, rules, left, right)
            self.assertIs(Rows(one, other).shows(rules, left, right), wanted)

    def test_never_both(self):
        for seed in range(60):
            columns = seed % 3 + 1
            given = some_rules(seed, columns, seed % 4)
            rules = Rules(columns, given)
            for left, right in itertools.product(range(1 << columns), repeat=2):
                follows = not right & ~slow_told(columns, given, left)
                steps = any(Steps(list(places)).shows(rules, left, right) for count in range(len(given) + 1)
                            for places in itertools.permutations(range(len(given)), count))
                pairs = itertools.product([0, 1], repeat=columns)
                rows = any(Rows([0] * columns, list(row)).shows(rules, left, right) for row in pairs)
                self.assertEqual((steps, rows), (follows, not follows))


class AlikeShows(unittest.TestCase):
    def setUp(self):
        self.one = Rules(3, [(1, 6), (2, 4)])
        self.other = Rules(3, [(1, 2), (2, 4), (3, 4)])

    def test_true(self):
        self.assertIs(Alike([[0, 1], [1]], [[0], [1], [1]]).shows(self.one, self.other), True)
        self.assertIs(Alike([[0], [1], [1]], [[0, 1], [1]]).shows(self.other, self.one), True)

    def test_a_list_for_each_rule(self):
        for there, back in [([[0, 1]], [[0], [1], [1]]), ([[0, 1], [1], []], [[0], [1], [1]]),
                            ([[0, 1], [1]], [[0], [1]]), ([[0, 1], [1]], [[0], [1], [1], []]),
                            ([], []), ([[0], [1], [1]], [[0, 1], [1]])]:
            self.assertIs(Alike(there, back).shows(self.one, self.other), False, (there, back))

    def test_steps_that_do_not_lead_there(self):
        for there, back in [([[0], [1]], [[0], [1], [1]]), ([[0, 1], []], [[0], [1], [1]]),
                            ([[0, 1], [1]], [[], [1], [1]]), ([[0, 1], [1]], [[0], [1], []]),
                            ([[1, 0], [1]], [[0], [0], [1]])]:
            self.assertIs(Alike(there, back).shows(self.one, self.other), False, (there, back))

    def test_places_that_there_are_not(self):
        self.assertIs(Alike([[0, 1, 3], [1]], [[0], [1], [1]]).shows(self.one, self.other), False)
        self.assertIs(Alike([[0, 1, 2], [1]], [[0], [1], [1]]).shows(self.one, self.other), True)
        self.assertIs(Alike([[0, 1], [1]], [[0, 2], [1], [1]]).shows(self.one, self.other), False)
        self.assertIs(Alike([[0, 1], [99]], [[0], [1], [1]]).shows(self.one, self.other), False)

    def test_no_rules(self):
        none = Rules(3, [])
        self.assertIs(Alike([], []).shows(none, none), True)
        self.assertIs(Alike([[]], []).shows(Rules(3, [(3, 1)]), none), True)
        self.assertIs(Alike([], [[]]).shows(none, Rules(3, [(3, 1)])), True)
        self.assertIs(Alike([[]], []).shows(Rules(3, [(1, 3)]), none), False)
        self.assertIs(Alike([[]], []).shows(none, none), False)

    def test_64_rules(self):
        many = Rules(6, [(1, 2)] * 64)
        self.assertIs(Alike([[0]] * 64, [[63]]).shows(many, Rules(6, [(1, 2)])), True)
        self.assertIs(Alike([[0]] * 63, [[63]]).shows(many, Rules(6, [(1, 2)])), False)
        self.assertIs(Alike([[0]] * 63 + [[]], [[63]]).shows(many, Rules(6, [(1, 2)])), False)

    def test_other_counts_of_columns(self):
        self.assertIs(Alike([], []).shows(Rules(2, []), Rules(3, [])), False)
        self.assertIs(Alike([[0]], [[0]]).shows(Rules(2, [(1, 2)]), Rules(3, [(1, 2)])), False)

    def test_fields_put_anew(self):
        answer = Alike([[0, 1], [1]], [[0], [1], [1]])
        answer.there[0].pop()
        self.assertIs(answer.shows(self.one, self.other), False)
        answer.there = [[0, 1], [1]]
        self.assertIs(answer.shows(self.one, self.other), True)
        answer.back.pop()
        self.assertIs(answer.shows(self.one, self.other), False)
        answer.back = [[0], [1], [0, 1]]
        self.assertIs(answer.shows(self.one, self.other), True)

    def test_at_chance(self):
        chance = random.Random(5)
        shown = 0
        for seed in range(4000):
            columns = seed % 2 + 1
            one = Rules(columns, some_rules(seed, columns, seed % 3))
            other = Rules(columns, some_rules(seed + 7000, columns, seed % 4 % 3))
            there, back = [[[chance.choice([0, 0, 1, 2]) for _ in range(chance.randint(0, 2))]
                            for _ in range(len(rules.rules()) + chance.choice([0] * 9 + [1]))]
                           for rules in [one, other]]
            wanted = True
            for lists, rules, by in [(there, one, other), (back, other, one)]:
                wanted = wanted and len(lists) == len(rules.rules()) and all(
                    slow_steps(places, by, *rule) for places, rule in zip(lists, rules.rules()))
            self.assertIs(Alike(there, back).shows(one, other), wanted)
            shown += wanted
        self.assertGreater(shown, 100)


class ApartShows(unittest.TestCase):
    def setUp(self):
        self.one = Rules(3, [(1, 2), (1, 4)])
        self.other = Rules(3, [(1, 2), (4, 2)])

    def test_true(self):
        self.assertIs(Apart(0, 1, [0, 0, 0], [0, 0, 1]).shows(self.one, self.other), True)
        self.assertIs(Apart(1, 1, [0, 0, 0], [99, 1, 0]).shows(self.one, self.other), True)

    def test_the_other_way_round(self):
        self.assertIs(Apart(1, 1, [0, 0, 0], [0, 0, 1]).shows(self.other, self.one), True)
        self.assertIs(Apart(0, 1, [0, 0, 0], [0, 0, 1]).shows(self.other, self.one), False)

    def test_the_other_side(self):
        self.assertIs(Apart(1, 1, [0, 0, 0], [0, 0, 1]).shows(self.one, self.other), False)
        for side in [2, 3, 99]:
            for rules in [(self.one, self.other), (self.other, self.one)]:
                self.assertIs(Apart(side, 1, [0, 0, 0], [0, 0, 1]).shows(*rules), False)

    def test_places_that_there_are_not(self):
        for place in [2, 3, 99]:
            self.assertIs(Apart(0, place, [0, 0, 0], [0, 0, 1]).shows(self.one, self.other), False)
        longer = Rules(3, [(1, 4), (2, 2), (2, 2)])
        self.assertIs(Apart(0, 0, [0, 0, 0], [0, 0, 1]).shows(longer, self.other), True)
        self.assertIs(Apart(1, 2, [0, 0, 0], [0, 0, 1]).shows(longer, self.other), False)
        self.assertIs(Apart(0, 0, [0], [0]).shows(Rules(1, []), Rules(1, [])), False)

    def test_the_last_of_64_rules(self):
        many = Rules(2, [(0, 0)] * 63 + [(0, 1)])
        self.assertIs(Apart(0, 63, [0, 0], [1, 0]).shows(many, Rules(2, [])), True)
        self.assertIs(Apart(1, 63, [0, 0], [1, 0]).shows(Rules(2, []), many), True)
        self.assertIs(Apart(0, 64, [0, 0], [1, 0]).shows(many, Rules(2, [])), False)

    def test_the_rule_is_kept(self):
        self.assertIs(Apart(0, 0, [0, 0, 0], [0, 0, 1]).shows(self.one, self.other), False)
        self.assertIs(Apart(0, 1, [0, 0, 0], [1, 0, 1]).shows(self.one, self.other), False)
        self.assertIs(Apart(0, 1, [0, 0, 0], [0, 0, 0]).shows(self.one, self.other), False)

    def test_the_other_list_is_broken(self):
        self.assertIs(Apart(0, 1, [0, 0, 0], [0, 1, 1]).shows(self.one, self.other), False)

    def test_rows_of_any_length(self):
        for one, other in [([], []), ([0, 0], [0, 0]), ([0, 0, 0], [0, 0]), ([0, 0], [0, 0, 1]),
                           ([0, 0, 0, 0], [0, 0, 1, 0]), ([0, 0, 0], [0, 0, 1, 0]), ([0] * 99, [0, 0, 1] * 33)]:
            for side, place in itertools.product([0, 1], repeat=2):
                self.assertIs(Apart(side, place, one, other).shows(self.one, self.other), False)

    def test_other_counts_of_columns(self):
        few, none, more = Rules(2, [(1, 2)]), Rules(3, []), Rules(3, [(1, 4), (1, 2)])
        for one, other in [(few, self.one), (self.one, few), (few, none), (none, few), (few, more), (more, few)]:
            for side, place in itertools.product([0, 1], repeat=2):
                for row in [[0, 1], [0, 0, 1], [0, 1, 0]]:
                    answer = Apart(side, place, [0] * len(row), row)
                    self.assertIs(answer.shows(one, other), False)

    def test_fields_put_anew(self):
        answer = Apart(0, 1, [0, 0, 0], [0, 0, 1])
        answer.side = 1
        self.assertIs(answer.shows(self.one, self.other), False)
        answer.side = 0
        answer.place = 0
        self.assertIs(answer.shows(self.one, self.other), False)
        answer.place = 1
        self.assertIs(answer.shows(self.one, self.other), True)
        answer.one[2] = 1
        self.assertIs(answer.shows(self.one, self.other), False)
        answer.other = [0, 0, 0]
        self.assertIs(answer.shows(self.one, self.other), True)

    def test_at_chance(self):
        chance = random.Random(6)
        shown = 0
        for seed in range(4000):
            columns = seed % 3 + 1
            one = Rules(columns, some_rules(seed, columns, seed % 4))
            other = Rules(columns, some_rules(seed + 9000, columns, seed // 4 % 3))
            side, place = chance.choice([0, 1]), chance.randint(0, 3)
            first, second = [[chance.randint(0, 1) for _ in range(columns + chance.choice([0] * 9 + [1]))]
                             for _ in range(2)]
            given, by = [(one, other), (other, one)][side]
            wanted = place < len(given.rules()) and slow_rows(first, second, by, *given.rules()[place])
            self.assertIs(Apart(side, place, first, second).shows(one, other), wanted)
            shown += wanted
        self.assertGreater(shown, 100)

    def test_never_both(self):
        for seed in range(200):
            columns = seed % 2 + 2
            one = Rules(columns, some_rules(seed, columns, seed % 3))
            other = Rules(columns, some_rules(seed + 5000, columns, seed // 3 % 3))
            same = all(told(one, some) == told(other, some) for some in range(1 << columns))
            alike = Alike(lists_of_steps(one, other), lists_of_steps(other, one)).shows(one, other)
            apart = any(Apart(side, place, [0] * columns, list(row)).shows(one, other)
                        for side in [0, 1] for place in [0, 1] for row in itertools.product([0, 1], repeat=columns))
            self.assertEqual((alike, apart), (same, not same))


class BackShows(unittest.TestCase):
    def test_true(self):
        rules = Rules(3, [(2, 4)])
        self.assertIs(Back([(0, 0, 1)]).shows(rules, [3, 6]), True)
        self.assertIs(Back([(0, 1, 0)]).shows(rules, [3, 6]), True)

    def test_places_of_rows_count_from_0(self):
        rules = Rules(3, [(2, 4)])
        self.assertIs(Back([(0, 1, 2)]).shows(rules, [3, 6]), False)
        self.assertIs(Back([(0, 2, 2), (0, 0, 1)]).shows(rules, [3, 6]), False)

    def test_no_steps(self):
        for columns in range(1, 7):
            whole = (1 << columns) - 1
            self.assertIs(Back([]).shows(Rules(columns, []), [whole]), True)
            self.assertIs(Back([]).shows(Rules(columns, []), [1, whole]), True)
        self.assertIs(Back([]).shows(Rules(2, []), [1, 2]), False)
        self.assertIs(Back([]).shows(Rules(3, [(2, 4)]), [3, 6]), False)

    def test_rows_not_alike_in_the_left(self):
        rules = Rules(3, [(2, 4), (1, 4)])
        self.assertIs(Back([(1, 0, 1)]).shows(rules, [3, 6]), False)
        self.assertIs(Back([(1, 0, 1), (0, 0, 1)]).shows(rules, [3, 6]), False)
        self.assertIs(Back([(0, 0, 1), (1, 0, 1)]).shows(rules, [3, 6]), False)

    def test_one_row_twice(self):
        rules = Rules(3, [(2, 4)])
        self.assertIs(Back([(0, 1, 1), (0, 0, 0), (0, 0, 1)]).shows(rules, [3, 6]), True)
        self.assertIs(Back([(0, 0, 0)]).shows(rules, [3, 6]), False)

    def test_places_that_there_are_not(self):
        rules = Rules(3, [(2, 4)])
        for step in [(1, 0, 1), (99, 0, 1), (0, 2, 0), (0, 0, 2), (0, 99, 99), (99, 99, 99)]:
            self.assertIs(Back([step]).shows(rules, [3, 6]), False)
            self.assertIs(Back([(0, 0, 1), step]).shows(rules, [3, 6]), False)
            self.assertIs(Back([step]).shows(rules, [7, 3]), False)
        self.assertIs(Back([(0, 0, 0)]).shows(Rules(1, []), [1]), False)

    def test_what_is_no_triple(self):
        for step in [(), (0,), (0, 0), (0, 0, 1, 1), [0, 0, 1]]:
            self.assertIs(Back([step]).shows(Rules(3, [(2, 4)]), [3, 6]), False)

    def test_alike_without_0_and_the_lesser_wherever_it_stands(self):
        # The sheet is 0 1 1 1 / 2 0 2 2 / 3 3 0 3 / 4 4 4 0, in its first column 0 2 3 4.
        rules = Rules(4, [(0, 1), (0, 2), (0, 4), (0, 8)])
        parts = [1, 2, 4, 8]
        self.assertIs(Back([(0, 1, 2), (0, 2, 0), (2, 1, 2), (3, 1, 3)]).shows(rules, parts), True)
        self.assertIs(Back([(0, 1, 2), (2, 1, 2), (3, 1, 3)]).shows(rules, parts), False)

    def test_not_by_the_row_alone_but_through_the_whole_column(self):
        # 0 1 1 / 2 0 2 / 3 0 0: the second and third get 2 in the first column, then both get 0 there at once.
        rules = Rules(3, [(2, 1), (0, 1)])
        self.assertIs(Back([(0, 1, 2), (1, 0, 1)]).shows(rules, [1, 2, 6]), True)
        self.assertIs(Back([(1, 0, 1)]).shows(rules, [1, 2, 6]), False)

    def test_only_in_its_own_column(self):
        rules = Rules(3, [(0, 2)])
        self.assertIs(Back([(0, 0, 1)]).shows(rules, [1, 6]), False)

    def test_a_right_of_several_columns(self):
        rules = Rules(3, [(0, 6), (0, 2)])
        self.assertIs(Back([(0, 0, 1)]).shows(rules, [1, 6]), True)
        self.assertIs(Back([(1, 0, 1)]).shows(rules, [1, 6]), False)

    def test_64_parts(self):
        rules = Rules(6, [(1, 62)])
        parts = [1] * 63 + [63 - 1]
        self.assertIs(Back([(0, 0, 63)]).shows(rules, parts), False)
        parts = [1] * 63 + [63 - 2]
        self.assertIs(Back([(0, 0, 63)]).shows(rules, parts), False)
        parts = [3] + [1] * 62 + [63 - 2]
        self.assertIs(Back([(0, 0, 63)]).shows(rules, parts), True)
        self.assertIs(Back([(0, 0, 64)]).shows(rules, parts), False)

    def test_fields_put_anew(self):
        rules = Rules(3, [(2, 4)])
        answer = Back([])
        self.assertIs(answer.shows(rules, [3, 6]), False)
        answer.steps.append((0, 0, 1))
        self.assertIs(answer.shows(rules, [3, 6]), True)
        answer.steps = [(0, 0, 2)]
        self.assertIs(answer.shows(rules, [3, 6]), False)

    def test_handed_in_stays(self):
        rules, parts, answer = Rules(3, [(2, 4)]), [3, 6], Back([(0, 0, 1)])
        self.assertIs(answer.shows(rules, parts), True)
        self.assertIs(answer.shows(rules, parts), True)
        self.assertEqual((rules.rules(), parts, answer.steps), ([(2, 4)], [3, 6], [(0, 0, 1)]))

    def test_at_chance(self):
        chance = random.Random(7)
        shown = 0
        for seed in range(6000):
            columns = seed % 4 + 1
            rules = Rules(columns, some_rules(seed, columns, seed % 4))
            parts = some_parts(seed, columns, chance.randint(1, 3))
            steps = [(chance.choice([0, 0, 1, 1, 2, 3]), chance.choice([0, 1, 1, 2]), chance.choice([0, 0, 1, 2, 3]))
                     for _ in range(chance.randint(0, 4))]
            wanted = slow_back(steps, rules, parts)
            self.assertIs(Back(steps).shows(rules, parts), wanted, (rules.rules(), parts, steps))
            shown += wanted and len(steps) > 0
        self.assertGreater(shown, 50)

    def test_steps_that_can_be_taken(self):
        for seed in range(300):
            columns = seed % 5 + 2
            given = some_rules(seed, columns, 4)
            rules = Rules(columns, given)
            parts = some_parts(seed, columns, 4)
            chance = random.Random(seed)
            steps = []
            for _ in range(40):
                step = (chance.randrange(4), chance.randrange(len(parts)), chance.randrange(len(parts)))
                longer = steps + [step]
                self.assertIs(Back(longer).shows(rules, parts), slow_back(longer, rules, parts))
                if slow_back(longer, rules, parts + [(1 << columns) - 1]):
                    steps = longer


class LostShows(unittest.TestCase):
    def setUp(self):
        self.rules = Rules(3, [(1, 2)])
        self.table = [[0, 0, 0], [1, 0, 1]]

    def test_true(self):
        self.assertIs(Lost(self.table, [0, 0, 1]).shows(self.rules, [3, 6]), True)
        self.assertIs(Lost(self.table, [1, 0, 0]).shows(self.rules, [3, 6]), True)
        self.assertIs(Lost([[0, 99], [99, 0]], [0, 0]).shows(Rules(2, []), [1, 2]), True)

    def test_a_row_that_it_has(self):
        self.assertIs(Lost(self.table, [0, 0, 0]).shows(self.rules, [3, 6]), False)
        self.assertIs(Lost(self.table, [1, 0, 1]).shows(self.rules, [3, 6]), False)

    def test_a_row_that_the_parts_do_not_make(self):
        self.assertIs(Lost(self.table, [0, 1, 1]).shows(self.rules, [3, 6]), False)
        self.assertIs(Lost(self.table, [0, 0, 1]).shows(self.rules, [3, 5]), False)
        self.assertIs(Lost(self.table, [0, 0, 1]).shows(self.rules, [7]), False)
        self.assertIs(Lost(self.table, [0, 0, 1]).shows(self.rules, [3, 6, 7]), False)
        self.assertIs(Lost(self.table, [2, 0, 1]).shows(self.rules, [3, 6]), False)

    def test_a_table_that_breaks_a_rule(self):
        rules = Rules(3, [(1, 2), (2, 4)])
        self.assertIs(Lost(self.table, [0, 0, 1]).shows(rules, [3, 6]), False)

    def test_rows_alike(self):
        self.assertIs(Lost(self.table * 32, [0, 0, 1]).shows(self.rules, [3, 6]), True)

    def test_no_rows(self):
        self.assertIs(Lost([], [0, 0, 0]).shows(self.rules, [3, 6]), False)
        self.assertIs(Lost([], []).shows(self.rules, [3, 6]), False)

    def test_rows_of_any_length(self):
        for row in [[], [0], [0, 0], [0, 0, 1, 0], [0, 0, 1] * 33]:
            self.assertIs(Lost(self.table, row).shows(self.rules, [3, 6]), False)
        for line in [[], [0], [0, 0], [5, 0, 1, 0], [0, 0, 1] * 33]:
            self.assertIs(Lost(self.table + [line], [0, 0, 1]).shows(self.rules, [3, 6]), False)
            self.assertIs(Lost([line] + self.table, [0, 0, 1]).shows(self.rules, [3, 6]), False)

    def test_more_rows_than_a_table_has(self):
        self.assertIs(Lost(self.table * 32 + [[0, 0, 0]], [0, 0, 1]).shows(self.rules, [3, 6]), False)

    def test_fields_put_anew(self):
        answer = Lost(self.table, [0, 0, 1])
        answer.table.append([0, 0, 1])
        self.assertIs(answer.shows(self.rules, [3, 6]), False)
        answer.row = [1, 0, 0]
        self.assertIs(answer.shows(self.rules, [3, 6]), True)
        answer.row[1] = 1
        self.assertIs(answer.shows(self.rules, [3, 6]), False)
        answer.table = [[1, 1, 1], [0, 1, 0]]
        self.assertIs(answer.shows(self.rules, [3, 6]), True)
        answer.table[0].append(0)
        self.assertIs(answer.shows(self.rules, [3, 6]), False)

    def test_at_chance(self):
        chance = random.Random(8)
        shown = 0
        for seed in range(6000):
            columns = seed % 3 + 2
            rules = Rules(columns, some_rules(seed, columns, seed % 3))
            parts = some_parts(seed, columns, chance.randint(1, 3))
            table = some_table(seed, columns, chance.randint(0, 4), 1)
            row = [chance.randint(0, 1) for _ in range(columns)]
            if seed % 11 == 0:
                chance.choice(table + [row]).append(0)
            wanted = slow_lost(table, row, rules, parts)
            self.assertIs(Lost(table, row).shows(rules, parts), wanted)
            shown += wanted
        self.assertGreater(shown, 100)

    def test_never_both(self):
        tables = list(small_tables(3, 3, 1))
        rows = [list(row) for row in itertools.product([0, 1], repeat=3)]
        found = {(True, False): 0, (False, True): 0}
        for seed in range(24):
            rules = Rules(3, some_rules(seed, 3, 2))
            parts = some_parts(seed, 3, 2)
            places = itertools.product(range(2), range(len(parts)), range(len(parts)))
            steps = list(places)
            back = any(Back(list(some)).shows(rules, parts)
                       for count in range(3) for some in itertools.product(steps, repeat=count))
            lost = any(Lost(table, row).shows(rules, parts) for table in tables for row in rows)
            self.assertFalse(back and lost)
            found[back, lost] = found.get((back, lost), 0) + 1
            for table in tables:
                if back and all(slow_keeps(table, rule) for rule in rules.rules()):
                    self.assertEqual(joined(3, table, parts), sorted(table))
        self.assertGreater(min(found[True, False], found[False, True]), 2)
