"""Selectors: the grammar, and the place of a fault."""

import itertools
import re
import unittest

from calls import GREATEST, ask, bytes_of, rule
from treestylesdesk.reader import SelectorFault, read_selector

SELECTORS = (
    "0", "1", "4294967295", "4294967294", "999999999", "3999999999", "*", ".0", ".7", ".4294967295",
    ":first", ":last", ":empty", ":not(*)", ":not(1)", ":not(.1)", ":not(:first)", ":not(:last)", ":not(:empty)",
    ":not(1.2:first:last:empty.3)", ":not(*.2)", ":not(4294967295)", ":not(0.0)",
    "1.2", "1.2.2.3", "*.2", "1:first", "1:first:last:empty", "*:not(1):not(2)", ".1:not(.2).3:first",
    "1 2", "1>2", "1+2", "1~2", "* *", "*>*", "*+*", "*~*", ".1 .2>.3+.4~.5", ":first :last", ":not(1)>:not(2)",
    "1,2", "*,*,*", "1 2,3>4,.5", ".1,:empty", "1:not(2) 3,4~5:not(.6)",
)

# Each with the place of its fault.
FAULTS = (
    ("", 0), (" ", 0), (",", 0), (">", 0), ("+", 0), ("~", 0), ("x", 0), (")", 0), ("(", 0), ("-1", 0), ("\t", 0),
    ("\n1", 0), ("\x00", 0), ("\xff", 0), ("/", 0), (" 1", 0), (";", 0), ("\xb2", 0), ("not(1)", 0), ("first", 0),
    ("00", 1), ("01", 1), ("007", 1), (".00", 2), (".01", 2), (":not(00)", 6), ("1 00", 3), ("1,01", 3),
    ("4294967296", 9), ("4294967299", 9), ("42949672950", 10), ("4294967300", 9), ("4294970000", 9), ("4300000000", 9),
    ("5000000000", 9), ("9999999999", 9), ("10000000000", 10), ("99999999999999999999", 9),
    (".4294967296", 10), (":not(4294967296)", 14), (":not(.4294967296)", 15), ("1>4294967296", 11),
    ("**", 1), ("*1", 1), ("1*", 1), (".1*", 2), (":first1", 6), (":first*", 6), (":not(1)2", 7), (":not(*)*", 7),
    (".", 1), ("..", 1), (".*", 1), (".x", 1), (". 1", 1), ("1.", 2), (".1.", 3), ("1.:first", 2), (".-1", 1),
    (":", 1), ("::", 1), (":x", 1), (":First", 1), (": first", 1), (":1", 1), (":)", 1), (":.1", 1),
    (":f", 2), (":firs", 5), (":firsT", 5), (":firstx", 6), (":fast", 2), (":l", 2), (":las", 4), (":lasx", 4),
    (":lastx", 5), (":first:lastt", 11), (":e", 2), (":empt", 5), (":emptx", 5), (":emptyy", 6), (":lirst", 2),
    (":n", 2), (":no", 3), (":not", 4), (":not(", 5), (":notx", 4), (":nox", 3), (":not 1", 4), (":not:first", 4),
    (":not()", 5), (":not( 1)", 5), (":not(x)", 5), (":not(1", 6), (":not(1.", 7), (":not(1.2", 8), (":not(:", 6),
    (":not(:first", 11), (":not(1 2)", 6), (":not(1,2)", 6), (":not(1>2)", 6), (":not(1+2)", 6), (":not(1~2)", 6),
    (":not(1 )", 6), (":not(1))", 7), (":not(**)", 6), (":not(*", 6), (":not(,", 5), (":not((", 5),
    (":not(:not(1))", 6), (":not(:n", 6), (":not(1:not(2))", 7), (":not(.1:not(2))", 8), (":not(*:n", 7),
    (":not(:first:not(1))", 12), ("1:not(2):not(:not(3))", 14),
    ("1 ", 2), ("1>", 2), ("1+", 2), ("1~", 2), ("1,", 2), ("1 2 ", 4), ("1>2,", 4),
    ("1  2", 2), ("1 >2", 2), ("1> 2", 2), ("1>>2", 2), ("1+~2", 2), ("1 ,2", 2), ("1, 2", 2), ("1,,2", 2), ("1>,2", 2),
    ("1\t2", 1), ("1\n", 1), ("1\r", 1), ("1;2", 1), ("1)", 1), ("1(", 1), ("1x", 1), ("1-2", 1), ("1|2", 1), ("1/2", 1),
    ("1\x00", 1), ("1\x80", 1), ("1\xa0", 1), ("1\xff", 1), (",1", 0), (">1", 0), ("1 )", 2), ("1,)", 2),
)


def shape(chains):
    return [[(link, shape_of_kind(kind)) for link, kind in chain] for chain in chains]


def shape_of_kind(kind):
    return (kind.tag, [(name, shape_of_kind(what) if name == "not" else what) for name, what in kind.tests])


def place_of_fault(text):
    """What the program says: None for a selector."""
    try:
        read_selector(bytes_of(text))
    except SelectorFault as fault:
        return fault.place
    return None


# The document's grammar as a pattern, and its words on faults taken as they stand:
# a text begins well if some rest makes it a selector.
NUMBER = "(?:0|[1-9][0-9]*)"
PLAIN_TEST = rf"(?:\.{NUMBER}|:first|:last|:empty)"
INNER_KIND = rf"(?:(?:{NUMBER}|\*){PLAIN_TEST}*|{PLAIN_TEST}+)"
TEST = rf"(?:{PLAIN_TEST}|:not\({INNER_KIND}\))"
KIND = rf"(?:(?:{NUMBER}|\*){TEST}*|{TEST}+)"
CHAIN = rf"{KIND}(?:[ >+~]{KIND})*"
SELECTOR = re.compile(rf"{CHAIN}(?:,{CHAIN})*")
WORD_ENDS = [word[k:] for word in (":first", ":last", ":empty", ":not(1)") for k in range(len(word) + 1)]
RESTS = list(dict.fromkeys(end + close for end in WORD_ENDS + ["1"] for close in ("", ")")))


def is_selector(text):
    if not SELECTOR.fullmatch(text):
        return False
    return all(int(number) <= GREATEST for number in re.findall("[0-9]+", text))


def begins_well(text):
    return any(is_selector(text + rest) for rest in RESTS)


def place_by_the_words(text):
    if is_selector(text):
        return None
    for n in range(len(text)):
        if not begins_well(text[:n + 1]):
            return n
    return len(text)


class Grammar(unittest.TestCase):
    def test_selectors_are_taken(self):
        for text in SELECTORS:
            with self.subTest(text=text):
                self.assertEqual(ask(rule(text)), [(1, [])])

    def test_what_is_read(self):
        self.assertEqual(shape(read_selector(bytes_of("12"))), [[("", (12, []))]])
        self.assertEqual(shape(read_selector(bytes_of("0.0"))), [[("", (0, [("class", 0)]))]])
        self.assertEqual(shape(read_selector(bytes_of("*"))), [[("", (None, []))]])
        self.assertEqual(
            shape(read_selector(bytes_of(":first.4294967295:last:empty"))),
            [[("", (None, [("first", None), ("class", GREATEST), ("last", None), ("empty", None)]))]])
        self.assertEqual(
            shape(read_selector(bytes_of("1 2>3+4~5,6"))),
            [[("", (1, [])), (" ", (2, [])), (">", (3, [])), ("+", (4, [])), ("~", (5, []))], [("", (6, []))]])
        self.assertEqual(
            shape(read_selector(bytes_of("7.1.1:not(8.2:first):not(*)"))),
            [[("", (7, [("class", 1), ("class", 1), ("not", (8, [("class", 2), ("first", None)])),
                        ("not", (None, []))]))]])

    def test_long_texts_are_gone_through_by_loops(self):
        for part, end in (("1>", "1"), ("1,", "1"), (".1", ""), (":not(1)", "")):
            text = part * 3000 + end
            self.assertIsNone(place_of_fault(text))


class Faults(unittest.TestCase):
    def test_places(self):
        for text, place in FAULTS:
            with self.subTest(text=text):
                self.assertEqual(ask(rule(text)), [(-1, [place])])

    def test_a_selector_cut_short_begins_well(self):
        for text in SELECTORS:
            for n in range(len(text)):
                with self.subTest(text=text[:n]):
                    self.assertIn(place_of_fault(text[:n]), (None, n))

    def test_every_byte_behind_a_tag_and_at_the_start(self):
        for byte in range(256):
            sign = bytes([byte]).decode("latin-1")
            with self.subTest(byte=byte):
                self.assertEqual(place_of_fault(sign), place_by_the_words(sign))
                self.assertEqual(place_of_fault("1" + sign), place_by_the_words("1" + sign))
                self.assertEqual(place_of_fault(":not(1" + sign), place_by_the_words(":not(1" + sign))


class ByTheWords(unittest.TestCase):
    """P1: what the program says is compared with the document's own words."""

    def check(self, text):
        self.assertEqual(place_of_fault(text), place_by_the_words(text), repr(text))

    def test_the_lists_above(self):
        for text in SELECTORS:
            self.assertIsNone(place_by_the_words(text), text)
        for text, place in FAULTS:
            self.assertEqual(place_by_the_words(text), place, repr(text))

    def test_all_short_texts(self):
        parts = ("0", "1", "*", ".", ":", ":first", ":not(", ")", " ", ">", ",", "n")
        for count in range(5):
            for chosen in itertools.product(parts, repeat=count):
                self.check("".join(chosen))

    def test_one_byte_changed_left_out_or_put_in(self):
        for text in SELECTORS:
            for k in range(len(text) + 1):
                self.check(text[:k] + text[k + 1:])
                for sign in "05*.:, >n()f":
                    self.check(text[:k] + sign + text[k + 1:])
                    self.check(text[:k] + sign + text[k:])


if __name__ == "__main__":
    unittest.main()
