"""Tables: which rules they break, and which rows their parts make."""

from tellscolumns.common import all_columns, are_parts, cells, is_count, is_table, keeps
from tellscolumns.errors import BadParts, BadTable


def broken(rules, table):
    if not is_table(table, rules.columns):
        raise BadTable("no table of these columns")
    return [place for place, rule in enumerate(rules.rules()) if not keeps(table, rule)]


def joined(columns, table, parts):
    if not is_count(columns):
        raise BadTable("the columns are no number from 1 to 6")
    if not is_table(table, columns):
        raise BadTable("no table of these columns")
    if not are_parts(parts, columns):
        raise BadParts("no list of 1 to 64 parts of these columns")
    rows = [[]]
    for column in range(columns):
        rows = widened(rows, column, table, parts)
    return rows


def widened(rows, column, table, parts):
    # Only the parts with this column can rule out a number here: the others were held against the row before.
    # Rows and numbers both rise, so the wider rows rise too.
    heads = sorted(set([part & all_columns(column + 1) for part in parts if part & (1 << column)]))
    seen = [seen_in(table, head) for head in heads]
    numbers = sorted(set([row[column] for row in table]))
    wider = []
    for row in rows:
        for number in numbers:
            longer = row + [number]
            if all([cells(longer, head) in known for head, known in zip(heads, seen)]):
                wider.append(longer)
    return wider


def seen_in(table, some):
    seen = {}
    for row in table:
        seen[cells(row, some)] = True
    return seen
