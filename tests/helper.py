"""Wrong values, and slow ways straight from the document's words, to hold the program against."""

import itertools
import random

OTHER_KINDS = [None, "", "1", "01", 1.0, 2.5, b"1", {}, {0: 1}, set(), object(), len, Exception, range(2)]
NO_NUMBERS = OTHER_KINDS + [True, False, [], [1], (), (1,), 1j]
NO_LISTS = OTHER_KINDS + [True, False, 0, 1, ()]
ROWS_OF_TWO = OTHER_KINDS + [True, False, 0, (), (1, 2), [], [1], [1, 2, 3], [[1, 2]]]
NUMBERS = NO_NUMBERS + [-1, 100, 10 ** 30, -10 ** 30]


def wrong_tables():
    """What is no table of two columns."""
    tables = NO_LISTS + [([1, 2],), ([1, 2], [3, 4]), iter([]), [[0, 0]] * 65, [1, 2]]
    for row in ROWS_OF_TWO:
        tables += [[row], [[1, 2], row], [row, [1, 2]]]
    for number in NUMBERS:
        tables += [[[number, 0]], [[0, number]], [[0, 0], [0, number]]]
    return tables


def wrong_parts():
    """What is no list of 1 to 64 parts of two columns."""
    lists = NO_LISTS + [(3,), (1, 2), iter([3]), [], [3] * 65, [1], [2], [2, 2], [1] * 64]
    for part in NO_NUMBERS + [0, -1, 4, 7, 10 ** 30, -10 ** 30]:
        lists += [[part], [3, part], [part, 3], [1, 2, part]]
    return lists


def columns_of(some):
    return [column for column in range(some.bit_length()) if some >> column & 1]


def alike_in(one, other, some):
    return all(one[column] == other[column] for column in columns_of(some))


def slow_keeps(table, rule):
    for one in table:
        for other in table:
            if alike_in(one, other, rule[0]) and not alike_in(one, other, rule[1]):
                return False
    return True


def slow_told(columns, rules, some):
    """Columns that stay alike in each two rows that keep the rules and are alike in the set."""
    whole = (1 << columns) - 1
    told = whole
    for alike in range(whole + 1):
        kept = all(left & ~alike or not right & ~alike for left, right in rules)
        if kept and not some & ~alike:
            told &= alike
    return told


def tells_by(columns, found):
    """What each set tells, in turn, where two rows are alike in just these sets: what each of them with it shares."""
    tells = []
    for some in range(1 << columns):
        told = (1 << columns) - 1
        for alike in found:
            if not some & ~alike:
                told &= alike
        tells.append(told)
    return tells


def slow_tells(columns, rules):
    """What each set tells, in turn, by each two rows that keep the rules."""
    return tells_by(columns, [alike for alike in range(1 << columns)
                              if all(left & ~alike or not right & ~alike for left, right in rules)])


def alikes(table):
    """The sets of columns in which two rows of the table are alike."""
    found = set()
    for one, other in itertools.product(table, repeat=2):
        found.add(sum(1 << column for column in range(len(one)) if one[column] == other[column]))
    return sorted(found)


def slow_tells_in(columns, table):
    """What each set tells, in turn, by the rules that the table keeps."""
    return tells_by(columns, alikes(table))


def lesser_rules(rule):
    """The rule with one column taken out of its left or of its right."""
    left, right = rule
    return [(left & ~(1 << column), right) for column in columns_of(left)] + [
        (left, right & ~(1 << column)) for column in columns_of(right)]


def fault_in_thin(columns, rules):
    """Why rules are not thin; None where they are."""
    lefts = [left for left, right in rules]
    if lefts != sorted(set(lefts)):
        return "the lefts are alike or do not rise"
    if any(left & right or not right for left, right in rules):
        return "a right is empty or has a column of its left"
    tells = slow_tells(columns, rules)
    for place, rule in enumerate(rules):
        for lesser in lesser_rules(rule):
            others = rules[:place] + ([lesser] if lesser[1] else []) + rules[place + 1:]
            if slow_tells(columns, others) == tells:
                return f"{rule} could be {lesser}"
    return None


def slow_joined(columns, table, parts):
    numbers = [sorted({row[column] for row in table}) for column in range(columns)]
    rows = []
    for row in itertools.product(*numbers):
        if all(any(alike_in(row, other, part) for other in table) for part in parts):
            rows.append(list(row))
    return rows


def slow_steps(places, rules, left, right):
    given = rules.rules()
    known = set(columns_of(left))
    for place in places:
        if place >= len(given) or not set(columns_of(given[place][0])) <= known:
            return False
        known |= set(columns_of(given[place][1]))
    return set(columns_of(right)) <= known


def slow_rows(one, other, rules, left, right):
    if len(one) != rules.columns or len(other) != rules.columns:
        return False
    kept = all(slow_keeps([one, other], rule) for rule in rules.rules())
    return kept and alike_in(one, other, left) and not alike_in(one, other, right)


def slow_back(steps, rules, parts):
    sheet = {}
    for place, part in enumerate(parts):
        for column in range(rules.columns):
            sheet[place, column] = 0 if column in columns_of(part) else place + 1
    for rule, one, other in steps:
        if rule >= len(rules.rules()) or one >= len(parts) or other >= len(parts):
            return False
        left, right = rules.rules()[rule]
        if any(sheet[one, column] != sheet[other, column] for column in columns_of(left)):
            return False
        for column in columns_of(right):
            both = [sheet[one, column], sheet[other, column]]
            for place in range(len(parts)):
                if sheet[place, column] in both:
                    sheet[place, column] = min(both)
    return any(all(sheet[place, column] == 0 for column in range(rules.columns)) for place in range(len(parts)))


def slow_lost(table, row, rules, parts):
    if any(len(line) != rules.columns for line in table + [row]):
        return False
    if not all(slow_keeps(table, rule) for rule in rules.rules()) or row in table:
        return False
    return all(any(alike_in(line, row, part) for line in table) for part in parts)


def some_rules(seed, columns, count):
    chance = random.Random(seed)
    whole = (1 << columns) - 1
    return [(chance.randint(0, whole), chance.randint(0, whole)) for _ in range(count)]


def lean_rules(seed, columns, count):
    """Rules of a wide left and one column, from which less follows than from as many others."""
    chance = random.Random(seed)
    whole = (1 << columns) - 1
    return [(chance.randint(0, whole) | chance.randint(0, whole), 1 << chance.randrange(columns))
            for _ in range(count)]


def drawn_rules(many):
    """Of each count of columns, of no rules to 64."""
    for seed in range(many):
        columns = seed % 6 + 1
        count = [0, 1, 2, 3, 4, 6, 9, 20, 64][seed // 6 % 9]
        draw = [some_rules, lean_rules][seed // 54 % 2]
        yield columns, draw(seed, columns, count)


def all_rules(columns, most):
    """All lists of at most so many rules."""
    sets = range(1 << columns)
    for count in range(most + 1):
        for rules in itertools.product(itertools.product(sets, repeat=2), repeat=count):
            yield list(rules)


def some_table(seed, columns, count, most):
    chance = random.Random(seed)
    return [[chance.randint(0, most) for _ in range(columns)] for _ in range(count)]


def some_parts(seed, columns, count):
    chance = random.Random(seed)
    whole = (1 << columns) - 1
    parts = [chance.randint(1, whole) for _ in range(count)]
    together = 0
    for part in parts:
        together |= part
    if together != whole:
        parts.append(whole & ~together)
    return parts


def small_tables(columns, rows, most):
    lines = [list(line) for line in itertools.product(range(most + 1), repeat=columns)]
    for count in range(rows + 1):
        for table in itertools.combinations(lines, count):
            yield [list(line) for line in table]
