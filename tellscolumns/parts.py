"""Parts: whether tables come back from them, which rules go across them, and rules cut into parts that come back."""

from tellscolumns.answers import Back, Lost
from tellscolumns.common import after_step, all_columns, cells, is_within, need_parts, sheet_of
from tellscolumns.rules import told


def comes_back(rules, parts):
    need_parts(rules.columns, parts)
    pairs = rules.rules()
    sheet = sheet_of(rules.columns, parts)
    full = [0] * rules.columns
    steps = []
    before = None
    while sheet != before and full not in sheet:
        before = sheet
        for place, rule in enumerate(pairs):
            for step in steps_by(sheet, place, rule):
                sheet = after_step(sheet, rule[1], step[1], step[2])
                steps.append(step)
    if full in sheet:
        return Back(steps)
    # A sheet that no step changes keeps all rules, and each part has 0 throughout in its own row.
    return Lost(sheet, full)


def steps_by(sheet, place, rule):
    # A rule's steps never change what stands in its left, so all of them can be found ahead of the first.
    firsts = {}
    steps = []
    for number, row in enumerate(sheet):
        first = firsts.setdefault(cells(row, rule[0]), number)
        if cells(row, rule[1]) != cells(sheet[first], rule[1]):
            steps.append((place, first, number))
    return steps


def across(rules, parts):
    need_parts(rules.columns, parts)
    places = []
    for place, rule in enumerate(rules.rules()):
        if not is_within(rule[1], told_within(rules, parts, rule[0])):
            places.append(place)
    return places


def told_within(rules, parts, some):
    # Of the rules that follow within a part, the one from all that is known there tells the most.
    known = some
    before = None
    while known != before:
        before = known
        for part in parts:
            known = known | (told(rules, known & part) & part)
    return known


def cut(rules):
    return sorted(set(halved(rules, all_columns(rules.columns))))


def halved(rules, part):
    # What is alike in the set is alike in all that it tells, so a table comes back from that and the set with the rest.
    for some in range(part):
        known = told(rules, some) & part
        if is_within(some, part) and known != some and known != part:
            return halved(rules, known) + halved(rules, some | (part ^ known))
    return [part]
