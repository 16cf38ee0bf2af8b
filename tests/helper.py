"""Wrong values, and slow ways straight from the document's words, to hold the program against."""

import itertools
import random

OTHER_KINDS = [None, "", "1", "01", 1.0, 2.5, b"1", {}, {0: 1}, set(), object(), len, Exception, range(2)]
NO_NUMBERS = OTHER_KINDS + [True, False, [], [1], (), (1,), 1j]
NO_LISTS = OTHER_KINDS + [True, False, 0, 1, ()]


def columns_of(some):
    return [column for column in range(some.bit_length()) if some >> column & 1]


def alike_in(one, other, some):
    return all(one[column] == other[column] for column in columns_of(some))


def slow_keeps(table, rule):
    for one in table:
        for other in table:
            if alike_in(one, other, rule[0]) and not alike_in(one, other, rule[1]):
                return False
    return True


def slow_told(columns, rules, some):
    """Columns that stay alike in each two rows that keep the rules and are alike in the set."""
    whole = (1 << columns) - 1
    told = whole
    for alike in range(whole + 1):
        kept = all(left & ~alike or not right & ~alike for left, right in rules)
        if kept and not some & ~alike:
            told &= alike
    return told


def slow_joined(columns, table, parts):
    numbers = [sorted({row[column] for row in table}) for column in range(columns)]
    rows = []
    for row in itertools.product(*numbers):
        if all(any(alike_in(row, other, part) for other in table) for part in parts):
            rows.append(list(row))
    return rows


def some_rules(seed, columns, count):
    chance = random.Random(seed)
    whole = (1 << columns) - 1
    return [(chance.randint(0, whole), chance.randint(0, whole)) for _ in range(count)]


def some_table(seed, columns, count, most):
    chance = random.Random(seed)
    return [[chance.randint(0, most) for _ in range(columns)] for _ in range(count)]


def some_parts(seed, columns, count):
    chance = random.Random(seed)
    whole = (1 << columns) - 1
    parts = [chance.randint(1, whole) for _ in range(count)]
    together = 0
    for part in parts:
        together |= part
    if together != whole:
        parts.append(whole & ~together)
    return parts


def small_tables(columns, rows, most):
    lines = [list(line) for line in itertools.product(range(most + 1), repeat=columns)]
    for count in range(rows + 1):
        for table in itertools.combinations(lines, count):
            yield [list(line) for line in table]
