"""Tables for rules, and rules for tables."""

from tellscolumns.common import keeps, need_table, sheet_of
from tellscolumns.rules import Rules, closed
from tellscolumns.telling import thinned


def example(rules):
    # A row for each closed set: two rows are alike in just what both sets share, and that is closed too.
    # The set of all columns is closed, so each closed set is what its row shares with that one's.
    return sheet_of(rules.columns, closed(rules))


def found_in(columns, table):
    need_table(columns, table)
    return thinned(Rules(columns, [(some, told_in(columns, table, some)) for some in range(1 << columns)]))


def told_in(columns, table, some):
    return sum([1 << column for column in range(columns) if keeps(table, (some, 1 << column))])
