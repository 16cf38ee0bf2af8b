"""Tables: which rules they break, and which rows their parts make."""

from tellscolumns.common import all_columns, cells, keeps, need_parts, need_table
from tellscolumns.errors import BadTable

MOST_ROWS_JOINED = 8


def broken(rules, table):
    need_table(rules.columns, table)
    return [place for place, rule in enumerate(rules.rules()) if not keeps(table, rule)]


def joined(columns, table, parts):
    need_table(columns, table)
    # A bound of its own, below that of other tables: the parts of 8 rows can make 8 ** 6 rows already.
    if len(table) > MOST_ROWS_JOINED:
        raise BadTable("a table of more than 8 rows")
    need_parts(columns, parts)
    rows = [[]]
    for column in range(columns):
        rows = widened(rows, column, table, parts)
    return rows


def widened(rows, column, table, parts):
    # Only the parts with this column can rule out a number here: the others were held against the row before.
    # Rows and numbers both rise, so the wider rows rise too.
    heads = sorted(set([part & all_columns(column + 1) for part in parts if part & (1 << column)]))
    seen = [seen_in(table, head) for head in heads]
    numbers = sorted(set([row[column] for row in table]))
    wider = []
    for row in rows:
        for number in numbers:
            longer = row + [number]
            if all([cells(longer, head) in known for head, known in zip(heads, seen)]):
                wider.append(longer)
    return wider


def seen_in(table, some):
    seen = {}
    for row in table:
        seen[cells(row, some)] = True
    return seen
