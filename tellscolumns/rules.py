"""Rules over columns: what a set tells, which sets are closed, which are keys."""

from tellscolumns.common import all_columns, are_rules, is_count, is_set, is_within
from tellscolumns.errors import BadRules, BadSet


class Rules:
    def __init__(self, columns, rules):
        if not is_count(columns):
            raise BadRules("the columns are no number from 1 to 6")
        if not are_rules(rules, columns):
            raise BadRules("no list of at most 64 pairs of sets of these columns")
        self.columns = columns
        self.pairs = [(rule[0], rule[1]) for rule in rules]

    def rules(self):
        return list(self.pairs)


def spread(pairs, some):
    known = some
    before = None
    while known != before:
        before = known
        for rule in pairs:
            if is_within(rule[0], known):
                known = known | rule[1]
    return known


def told(rules, some):
    if not is_set(some, rules.columns):
        raise BadSet("no set of these columns")
    return spread(rules.rules(), some)


def closed(rules):
    pairs = rules.rules()
    return [some for some in range(1 << rules.columns) if spread(pairs, some) == some]


def lesser_by_one(some, columns):
    return [some ^ (1 << column) for column in range(columns) if some & (1 << column)]


def keys(rules):
    pairs = rules.rules()
    whole = all_columns(rules.columns)
    telling = [some for some in range(whole + 1) if spread(pairs, some) == whole]
    least = []
    for some in telling:
        if not any([lesser in telling for lesser in lesser_by_one(some, rules.columns)]):
            least.append(some)
    return least
