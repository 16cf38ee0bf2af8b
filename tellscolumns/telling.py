"""What follows from rules: whether a rule does, which thin rules tell the same, and whether two lists tell the same."""

from tellscolumns.answers import Alike, Apart, Rows, Steps
from tellscolumns.common import is_set, is_within, row_of
from tellscolumns.errors import BadSet, Unlike
from tellscolumns.rules import lesser_by_one, spread


def follows(rules, left, right):
    if not is_set(left, rules.columns) or not is_set(right, rules.columns):
        raise BadSet("no set of these columns")
    pairs = rules.rules()
    known = spread(pairs, left)
    if is_within(right, known):
        return Steps(steps_to(pairs, left, right))
    # Rows alike in just what the left tells keep all rules: by a rule they broke, the left would tell more.
    return Rows(row_of(rules.columns, known, 0), row_of(rules.columns, known, 1))


def steps_to(pairs, left, right):
    known = left
    steps = []
    while not is_within(right, known):
        step = first_useful(pairs, known)
        steps.append(step)
        known = known | pairs[step][1]
    return steps


def first_useful(pairs, known):
    # Asked only where more is told than is known, so there is one.
    useful = [is_within(rule[0], known) and not is_within(rule[1], known) for rule in pairs]
    return useful.index(True)


def alike(one, other):
    if one.columns != other.columns:
        raise Unlike("the rules are of other counts of columns")
    there = [follows(other, rule[0], rule[1]) for rule in one.rules()]
    back = [follows(one, rule[0], rule[1]) for rule in other.rules()]
    for side, answers in enumerate([there, back]):
        for place, answer in enumerate(answers):
            if isinstance(answer, Rows):
                return Apart(side, place, answer.one, answer.other)
    return Alike([answer.places for answer in there], [answer.places for answer in back])


def thinned(rules):
    pairs = rules.rules()
    tells = [spread(pairs, some) for some in range(1 << rules.columns)]
    narrow = []
    for rule in pairs:
        for column in range(rules.columns):
            single = 1 << column
            if is_within(single, rule[1]):
                narrow.append((narrowed(tells, rule[0], single, rules.columns), single))
    return gathered(without_spare(sorted(set(narrow))))


def narrowed(tells, left, right, columns):
    for lesser in lesser_by_one(left, columns):
        if is_within(right, tells[lesser]):
            return narrowed(tells, lesser, right, columns)
    return left


def without_spare(pairs):
    kept = pairs
    for rule in pairs:
        others = [other for other in kept if other != rule]
        if is_within(rule[1], spread(others, rule[0])):
            kept = others
    return kept


def gathered(pairs):
    rights = {}
    for rule in pairs:
        rights[rule[0]] = rights.get(rule[0], 0) | rule[1]
    return sorted(rights.items())
