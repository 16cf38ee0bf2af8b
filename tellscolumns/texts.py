"""Rules as texts."""

from tellscolumns.common import MOST_COLUMNS, MOST_RULES
from tellscolumns.errors import BadText
from tellscolumns.rules import Rules


def written(rules):
    words = [figures(rule[0]) + ">" + figures(rule[1]) for rule in rules.rules()]
    return "; ".join([str(rules.columns)] + words)


def figures(some):
    if some == 0:
        return "-"
    return "".join([str(column) for column in range(some.bit_length()) if some & (1 << column)])


def read(text):
    if not isinstance(text, str):
        raise BadText("no text")
    words = text.split("; ")
    if words[0] not in [str(count) for count in range(1, MOST_COLUMNS + 1)]:
        raise BadText("no count of columns from 1 to 6 at the head")
    if len(words) > MOST_RULES + 1:
        raise BadText("more than 64 rules")
    columns = int(words[0])
    sets = sets_by_figures(columns)
    return Rules(columns, [rule_in(word, sets) for word in words[1:]])


def sets_by_figures(columns):
    # Looked up so, just the figures that are written for a set are read as one.
    sets = {}
    for some in range(1 << columns):
        sets[figures(some)] = some
    return sets


def rule_in(word, sets):
    sides = word.split(">")
    if len(sides) != 2 or sides[0] not in sets or sides[1] not in sets:
        raise BadText("no rule of these columns")
    return (sets[sides[0]], sets[sides[1]])
