"""What the other files share: what is a number, a set, a rule, a table and parts, and which rows are alike where."""

from tellscolumns.errors import BadParts, BadTable

MOST_COLUMNS = 6
MOST_RULES = 64
MOST_ROWS = 64
MOST_NUMBER = 99
MOST_PARTS = 64


def is_number(value, least, most):
    # Python counts True and False among its whole numbers, the document doesn't.
    if isinstance(value, bool):
        return False
    return isinstance(value, int) and least <= value <= most


def is_list(value, least, most):
    return isinstance(value, list) and least <= len(value) <= most


def is_count(columns):
    return is_number(columns, 1, MOST_COLUMNS)


def all_columns(columns):
    return (1 << columns) - 1


def is_set(value, columns):
    return is_number(value, 0, all_columns(columns))


def is_rule(value, columns):
    if not isinstance(value, tuple) or len(value) != 2:
        return False
    return is_set(value[0], columns) and is_set(value[1], columns)


def are_rules(value, columns):
    if not is_list(value, 0, MOST_RULES):
        return False
    return all([is_rule(rule, columns) for rule in value])


def is_row(value, columns):
    if not is_list(value, columns, columns):
        return False
    return all([is_number(number, 0, MOST_NUMBER) for number in value])


def is_table(value, columns):
    if not is_list(value, 0, MOST_ROWS):
        return False
    return all([is_row(row, columns) for row in value])


def are_parts(value, columns):
    if not is_list(value, 1, MOST_PARTS):
        return False
    together = 0
    for part in value:
        if not is_number(part, 1, all_columns(columns)):
            return False
        together = together | part
    return together == all_columns(columns)


def need_table(columns, table):
    if not is_count(columns):
        raise BadTable("the columns are no number from 1 to 6")
    if not is_table(table, columns):
        raise BadTable("no table of these columns")


def need_parts(columns, parts):
    if not are_parts(parts, columns):
        raise BadParts("no list of 1 to 64 parts of these columns")


def is_within(some, whole):
    return some | whole == whole


def cells(row, some):
    # A tuple, so that it can be looked up in a dict.
    return tuple([number for column, number in enumerate(row) if some & (1 << column)])


def keeps(table, rule):
    # Rows alike in the left need be held against the first of them alone: what is alike with it is alike throughout.
    firsts = {}
    for row in table:
        right = cells(row, rule[1])
        if firsts.setdefault(cells(row, rule[0]), right) != right:
            return False
    return True


def keeps_all(table, pairs):
    return all([keeps(table, rule) for rule in pairs])


def makes(table, parts, row):
    for part in parts:
        if cells(row, part) not in [cells(other, part) for other in table]:
            return False
    return True


def row_of(columns, some, number):
    return [0 if some & (1 << column) else number for column in range(columns)]


def sheet_of(columns, parts):
    return [row_of(columns, part, place) for place, part in enumerate(parts, start=1)]


def lowered(number, one, other):
    return min(one, other) if number == one or number == other else number


def after_step(sheet, right, one, other):
    first = sheet[one]
    second = sheet[other]
    stepped = []
    for row in sheet:
        fallen = [lowered(row[column], first[column], second[column]) for column in range(len(row))]
        stepped.append([fallen[column] if right & (1 << column) else row[column] for column in range(len(row))])
    return stepped
