"""The answers: each holds its fields, and shows whether they are as the document tells."""

from tellscolumns.common import after_step, cells, is_number, is_row, is_table, is_within
from tellscolumns.common import keeps, keeps_all, makes, sheet_of


class Answer:
    pass


class Steps(Answer):
    def __init__(self, places):
        self.places = list(places)

    def shows(self, rules, left, right):
        return lead(self.places, rules, left, right)


class Rows(Answer):
    def __init__(self, one, other):
        self.one = list(one)
        self.other = list(other)

    def shows(self, rules, left, right):
        return break_alone([self.one, self.other], rules, (left, right))


class Alike(Answer):
    def __init__(self, there, back):
        self.there = [list(places) for places in there]
        self.back = [list(places) for places in back]

    def shows(self, one, other):
        # Rules of other counts of columns never have just the same following from them.
        if one.columns != other.columns:
            return False
        return all_lead(self.there, one, other) and all_lead(self.back, other, one)


class Apart(Answer):
    def __init__(self, side, place, one, other):
        self.side = side
        self.place = place
        self.one = list(one)
        self.other = list(other)

    def shows(self, one, other):
        if one.columns != other.columns or not is_number(self.side, 0, 1):
            return False
        pairs = one.rules() if self.side == 0 else other.rules()
        if not is_place(self.place, pairs):
            return False
        kept = other if self.side == 0 else one
        return break_alone([self.one, self.other], kept, pairs[self.place])


class Back(Answer):
    def __init__(self, steps):
        self.steps = list(steps)

    def shows(self, rules, parts):
        pairs = rules.rules()
        sheet = sheet_of(rules.columns, parts)
        for step in self.steps:
            if not is_step(step, pairs, sheet):
                return False
            sheet = after_step(sheet, pairs[step[0]][1], step[1], step[2])
        return [0] * rules.columns in sheet


class Lost(Answer):
    def __init__(self, table, row):
        self.table = [list(line) for line in table]
        self.row = list(row)

    def shows(self, rules, parts):
        if not is_table(self.table, rules.columns) or not is_row(self.row, rules.columns):
            return False
        if self.row in self.table or not keeps_all(self.table, rules.rules()):
            return False
        return makes(self.table, parts, self.row)


def is_place(value, things):
    return is_number(value, 0, len(things) - 1)


def lead(places, rules, left, right):
    pairs = rules.rules()
    known = left
    for place in places:
        if not is_place(place, pairs) or not is_within(pairs[place][0], known):
            return False
        known = known | pairs[place][1]
    return is_within(right, known)


def all_lead(lists, rules, others):
    pairs = rules.rules()
    if len(lists) != len(pairs):
        return False
    return all([lead(places, others, rule[0], rule[1]) for places, rule in zip(lists, pairs)])


def break_alone(rows, rules, rule):
    # Two rows break a rule just if they are alike in all of its left and not in all of its right.
    if not is_table(rows, rules.columns):
        return False
    return keeps_all(rows, rules.rules()) and not keeps(rows, rule)


def is_step(step, pairs, sheet):
    if not isinstance(step, tuple) or len(step) != 3:
        return False
    if not is_place(step[0], pairs) or not is_place(step[1], sheet) or not is_place(step[2], sheet):
        return False
    left = pairs[step[0]][0]
    return cells(sheet[step[1]], left) == cells(sheet[step[2]], left)
