import inspect
import itertools
import re
import unittest

from tellscolumns.errors import BadText
from tellscolumns.rules import Rules
from tellscolumns.texts import read, written
from tests.helper import NO_NUMBERS, all_rules, columns_of, drawn_rules

SIGNS = [chr(code) for code in range(32, 127)] + ["\t", "\n"]
TEXTS = ["4; 01>2; ->3", "1", "6", "1; ->-", "1; 0>0; ->0", "2; 1>0; 01>-; ->01", "3; 012>012; 02>1",
         "6; 012345>-; 135>024", "5; 0>1; 0>1; 4>3", "6; 5>4; ->-; 23>1"]


def slow_written(columns, given):
    text = str(columns)
    for rule in given:
        left, right = ["".join(str(column) for column in columns_of(some)) or "-" for some in rule]
        text += "; " + left + ">" + right
    return text


def is_written(text):
    """Whether a text is one of a count of columns and at most 64 rules, to the sign."""
    if not re.fullmatch(r"[1-6](; (-|0?1?2?3?4?5?)>(-|0?1?2?3?4?5?))*", text) or text.count(">") > 64:
        return False
    sides = re.split(r"; |>", text)[1:]
    return all(side != "" and set(side) <= set("-" + "012345"[:int(text[0])]) for side in sides)


class Written(unittest.TestCase):
    def test_arguments(self):
        self.assertEqual(list(inspect.signature(written).parameters), ["rules"])

    def test_ordinary(self):
        self.assertEqual(written(Rules(4, [(3, 4), (0, 8)])), "4; 01>2; ->3")
        self.assertEqual(written(Rules(6, [(42, 21)])), "6; 135>024")
        self.assertEqual(written(Rules(3, [(4, 1), (4, 1), (1, 4)])), "3; 2>0; 2>0; 0>2")

    def test_edges(self):
        for columns in range(1, 7):
            figures = "012345"[:columns]
            whole = (1 << columns) - 1
            self.assertEqual(written(Rules(columns, [])), str(columns))
            self.assertEqual(written(Rules(columns, [(0, 0)])), f"{columns}; ->-")
            self.assertEqual(written(Rules(columns, [(whole, whole)])), f"{columns}; {figures}>{figures}")
            self.assertEqual(written(Rules(columns, [(0, whole)] * 64)), f"{columns}" + f"; ->{figures}" * 64)

    def test_each_rule(self):
        for columns in range(1, 7):
            for rule in itertools.product(range(1 << columns), repeat=2):
                self.assertEqual(written(Rules(columns, [rule])), slow_written(columns, [rule]))

    def test_at_chance(self):
        for columns, given in drawn_rules(108):
            self.assertEqual(written(Rules(columns, given)), slow_written(columns, given))

    def test_changes_nothing(self):
        rules = Rules(3, [(3, 4), (4, 1)])
        self.assertIs(type(written(rules)), str)
        self.assertEqual((rules.columns, rules.rules()), (3, [(3, 4), (4, 1)]))


class Read(unittest.TestCase):
    def hold(self, text):
        """Read if it is written so, refused if not."""
        if is_written(text):
            rules = read(text)
            self.assertIs(type(rules), Rules)
            self.assertEqual(slow_written(rules.columns, rules.rules()), text)
        else:
            with self.assertRaises(BadText, msg=repr(text)):
                read(text)

    def refuse(self, texts):
        for text in texts:
            with self.assertRaises(BadText, msg=repr(text)):
                read(text)

    def test_arguments(self):
        self.assertEqual(list(inspect.signature(read).parameters), ["text"])

    def test_ordinary(self):
        rules = read("4; 01>2; ->3")
        self.assertIs(type(rules), Rules)
        self.assertEqual((rules.columns, rules.rules()), (4, [(3, 4), (0, 8)]))
        rules = read("6; 135>024")
        self.assertEqual((rules.columns, rules.rules()), (6, [(42, 21)]))

    def test_edges(self):
        for columns in range(1, 7):
            whole = (1 << columns) - 1
            for given in [[], [(0, 0)], [(whole, whole)], [(0, whole)] * 64, [(whole, 0)] * 64]:
                rules = read(slow_written(columns, given))
                self.assertEqual((rules.columns, rules.rules()), (columns, given))

    def test_each_rule(self):
        for columns in range(1, 7):
            sets = range(1 << columns)
            for left in sets:
                given = [(left, right) for right in sets]
                rules = read(written(Rules(columns, given)))
                self.assertEqual((rules.columns, rules.rules()), (columns, given))

    def test_each_text_that_is_written(self):
        for given in all_rules(2, 2):
            self.assertEqual(read(written(Rules(2, given))).rules(), given)
        for columns, given in drawn_rules(108):
            rules = read(written(Rules(columns, given)))
            self.assertEqual((rules.columns, rules.rules()), (columns, given))

    def test_one_sign_left_out(self):
        for text in TEXTS:
            for place in range(len(text)):
                self.hold(text[:place] + text[place + 1:])

    def test_one_sign_put_in(self):
        for text in TEXTS:
            for place, sign in itertools.product(range(len(text) + 1), SIGNS):
                self.hold(text[:place] + sign + text[place:])

    def test_one_sign_changed(self):
        for text in TEXTS:
            for place, sign in itertools.product(range(len(text)), SIGNS):
                self.hold(text[:place] + sign + text[place + 1:])

    def test_two_signs_in_another_turn(self):
        for text in TEXTS:
            for place in range(len(text) - 1):
                self.hold(text[:place] + text[place + 1] + text[place] + text[place + 2:])

    def test_all_short_texts(self):
        for length in range(6):
            for signs in itertools.product("-1;> 0", repeat=length):
                self.hold("".join(signs))
                self.hold("2; " + "".join(signs))

    def test_figures_that_do_not_rise(self):
        self.refuse(["2; 10>-", "2; ->10", "3; 021>1", "3; 00>1", "3; 1>22", "6; 012354>-", "6; ->0012345", "2; 010>1"])

    def test_figures_beyond_the_columns(self):
        for columns in range(1, 7):
            for figure in range(columns, 10):
                self.refuse([f"{columns}; {figure}>0", f"{columns}; 0>{figure}", f"{columns}; 0{figure}>-"])

    def test_counts_of_columns(self):
        self.refuse(["0", "7", "8", "9", "10", "01", "-1", "+1", "1.0", "16", "-", "x", "1_", "one", "0; ->-", "7; ->-"])
        self.refuse(["; 0>1", "0>1", ">", "->-", "2 ; 0>1"])

    def test_the_empty_set(self):
        self.refuse(["2; >1", "2; 0>", "2; >", "2; -->1", "2; -0>1", "2; 0->1", "2; 0>-1", "2; 0>1-", "2; --"])

    def test_signs_between_rules(self):
        self.refuse(["2;0>1", "2;  0>1", "2, 0>1", "2; 0>1;1>0", "2; 0>1;  1>0", "2; 0>1 ;1>0", "2; 0>1, 1>0",
                     "2; 0>1; ", "2; 0>1;", "2;", "2; ", "2; ; 0>1", "2; 0>1; ; 1>0", "2 0>1", "2; 0>1 1>0"])

    def test_the_sign_within_a_rule(self):
        self.refuse(["2; 01", "2; 0-1", "2; 0>>1", "2; 0>1>0", "2; 0 > 1", "2; 0> 1", "2; 0 >1", "2; 0<1", "2; 0=>1"])

    def test_blanks_tabs_and_line_feeds(self):
        for text in TEXTS:
            for more in [" ", "\t", "\n", "  ", "\n\n", "\t\n"]:
                self.refuse([more + text, text + more])
                self.refuse([text[:place] + more + text[place:] for place in range(1, len(text))])
            self.refuse([text.replace(" ", other) for other in ["\t", "\n", ""] if " " in text])

    def test_the_empty_text(self):
        self.refuse(["", " ", "\t", "\n", "; ", ";"])

    def test_signs_of_other_writings(self):
        self.refuse(["\u0664", "\uff14", "\u00b2", "4; \u0660>1", "4; 0>\uff11", "4;\u00a00>1", "4; 0>1\x00", "4; 0>1\r",
                     "4; 0\u203a1", "4; \u2212>1", "4\u037e 0>1"])

    def test_what_is_no_text(self):
        texts = [thing for thing in NO_NUMBERS if not isinstance(thing, str)]
        self.refuse(texts + [4, 0, b"4; 01>2", bytearray(b"4"), ["4; 01>2"], ["4"], ("4", "01>2"), {"4": 1}, Rules(4, [])])

    def test_counts_of_rules(self):
        self.assertEqual(read("2" + "; 0>1" * 64).rules(), [(1, 2)] * 64)
        for count in [65, 66, 100, 1000]:
            self.refuse(["2" + "; 0>1" * count, "1" + "; ->-" * count])

    def test_two_readings_share_nothing(self):
        first, second = read("4; 01>2; ->3"), read("4; 01>2; ->3")
        self.assertIsNot(first, second)
        self.assertIsNot(first.rules(), second.rules())
        first.rules().clear()
        self.assertEqual(first.rules(), second.rules())
