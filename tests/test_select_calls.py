"""Points 8 and 9: matches and select; which nodes match a kind, a chain, a selector."""

import unittest

from calls import GREATEST, add, ask, drop, last, mark, matches, new, nodes_of, rule, select, unrule

# 0 (tag 0)
#   1 (tag 1, class 5)
#     3 (tag 2)
#       6 (tag 3, class 5)
#     4 (tag 2, classes 5 and 6)
#     5 (tag 1)
#   2 (tag 1)
#     7 (tag 2, class 6)
TREE = (add(0, 1), add(0, 1), add(1, 2), add(1, 2), add(1, 1), add(3, 3), add(2, 2),
        mark(1, 5, 1), mark(6, 5, 1), mark(4, 5, 1), mark(4, 6, 1), mark(7, 6, 1))

FOUND = (
    # The tag, and any node.
    ("*", [0, 1, 3, 6, 4, 5, 2, 7]), ("0", [0]), ("1", [1, 5, 2]), ("2", [3, 4, 7]), ("3", [6]), ("4", []), ("21", []),
    ("4294967295", []),
    # Classes.
    (".5", [1, 6, 4]), (".6", [4, 7]), (".5.6", [4]), (".6.5", [4]), (".5.5", [1, 6, 4]), (".7", []), (".5.7", []),
    ("*.5", [1, 6, 4]), ("1.5", [1]), ("2.5", [4]), ("2.6", [4, 7]), ("0.5", []),
    # First, last, empty.
    (":first", [0, 1, 3, 6, 7]), (":last", [0, 6, 5, 2, 7]), (":empty", [6, 4, 5, 7]), (":first:last", [0, 6, 7]),
    (":last:first", [0, 6, 7]), ("0:first", [0]), ("0:last", [0]), ("1:first", [1]), ("1:last", [5, 2]),
    ("1:empty", [5]), (":first:empty", [6, 7]), (":first.5", [1, 6]), ("0:empty", []),
    # Exceptions.
    (":not(1)", [0, 3, 6, 4, 7]), (":not(.5)", [0, 3, 5, 2, 7]), (":not(1.5)", [0, 3, 6, 4, 5, 2, 7]), (":not(*)", []),
    ("*:not(*)", []), (":not(*.5)", [0, 3, 5, 2, 7]), (":not(.5.6)", [0, 1, 3, 6, 5, 2, 7]),
    (":not(:first)", [4, 5, 2]), (":not(:last)", [1, 3, 4]), (":not(:empty)", [0, 1, 3, 2]),
    (":not(:first:last)", [1, 3, 4, 5, 2]), (":not(:first):not(:last)", [4]), ("2:not(.5)", [3, 7]),
    ("2:not(2)", []), ("2:not(1)", [3, 4, 7]), ("2:not(.5):not(.6)", [3]), ("2:not(.5):first", [3, 7]),
    (":not(2:first)", [0, 1, 6, 4, 5, 2]), (":not(9)", [0, 1, 3, 6, 4, 5, 2, 7]),
    # Somewhere below.
    ("0 *", [1, 3, 6, 4, 5, 2, 7]), ("* 0", []), ("1 *", [3, 6, 4, 5, 7]), ("1 2", [3, 4, 7]), ("1 1", [5]),
    ("1 3", [6]), ("0 3", [6]), ("2 2", []), ("3 *", []), (".5 .5", [6, 4]), ("0 1 2 3", [6]), ("* * *", [3, 6, 4, 5, 7]),
    ("* * * *", [6]), ("* * * * *", []), ("0 0", []),
    # A child.
    ("0>*", [1, 2]), ("*>0", []), ("1>*", [3, 4, 5, 7]), ("1>2", [3, 4, 7]), ("1>3", []), ("0>1>2>3", [6]),
    ("*>*>*", [3, 6, 4, 5, 7]), (".5>.5", [4]), ("1.5>2", [3, 4]), ("0>2", []),
    # Right behind.
    ("*+*", [4, 5, 2]), ("1+1", [2]), ("2+2", [4]), ("2+1", [5]), ("1+2", []), ("2+2+1", [5]), ("*+*+*", [5]),
    (".5+*", [5, 2]), ("0+*", []), ("*+0", []), ("3+*", []),
    # Somewhere behind.
    ("*~*", [4, 5, 2]), ("2~1", [5]), ("2~2", [4]), ("2:first~1", [5]), ("2:first+1", []), ("*~*~*", [5]),
    ("1~1", [2]), ("1~2", []), ("0~*", []), ("*~0", []),
    # Links of several sorts in one chain.
    ("0>1+1>2", [7]), ("1.5>2~1", [5]), ("1.5>2+2", [4]), ("1+1 2", [7]), ("1~1>*", [7]), ("2+2~1", [5]),
    ("0 2>3", [6]), ("0>1 3", [6]), ("1 2+1", [5]), ("1>2 *", [6]), (".5 2:not(.5)>:empty", [6]), ("0+1>2", []),
    # Several chains.
    ("1,2", [1, 3, 4, 5, 2, 7]), ("2,1", [1, 3, 4, 5, 2, 7]), ("3,3", [6]), ("*,*", [0, 1, 3, 6, 4, 5, 2, 7]),
    ("9,3", [6]), ("3,9", [6]), ("9,8", []), ("7,6,0", [0]), ("2+2,1+1,3", [6, 4, 2]), (".6,0>1.5,.5 .5", [1, 6, 4, 7]),
    # The end of a chain leads no further: a link is within its own chain.
    ("0,1>9", [0]), ("1 9,*>9", []), ("0,9>1", [0]), ("0>1,2:not(2)", [1, 2]),
)


class SelectCall(unittest.TestCase):
    def test_what_matches(self):
        for text, nodes in FOUND:
            with self.subTest(text=text):
                self.assertEqual(nodes_of(*TREE, select(text)), nodes)

    def test_the_root_alone(self):
        for text in ("*", "0", ":first", ":last", ":empty", ":first:last:empty", ":not(1)"):
            self.assertEqual(ask(select(text)), [(1, [0])], text)
        for text in ("1", "* *", "*>*", "*+*", "*~*", ":not(:first)", ":not(:last)", ".0"):
            self.assertEqual(ask(select(text)), [(0, [])], text)

    def test_the_root_is_first_and_last_with_children_too(self):
        self.assertEqual(nodes_of(add(0, 1), add(0, 1), select("0:first:last")), [0])

    def test_great_numbers(self):
        self.assertEqual(nodes_of(add(0, GREATEST), mark(0, GREATEST, 1), select("4294967295")), [1])
        self.assertEqual(nodes_of(add(0, GREATEST), mark(0, GREATEST, 1), select(".4294967295")), [0])

    def test_class_0_and_tag_0(self):
        self.assertEqual(nodes_of(add(0, 1), mark(1, 0, 1), select(".0")), [1])
        self.assertEqual(nodes_of(add(0, 0), select("0")), [0, 1])
        self.assertEqual(nodes_of(add(0, 1), select(":not(0)")), [1])

    def test_the_documents_order_is_not_that_of_the_numbers(self):
        calls = (add(0), add(0), add(1), add(1), add(2), drop(3), add(2), drop(4), add(0))
        # 0 has 1, 2, 4; 2 has 5, 3.
        self.assertEqual(nodes_of(*calls, select("*")), [0, 1, 2, 5, 3, 4])
        self.assertEqual(nodes_of(*calls, select("*+*")), [2, 3, 4])
        self.assertEqual(nodes_of(*calls, select(":first")), [0, 1, 5])
        self.assertEqual(nodes_of(*calls, select(":last")), [0, 3, 4])

    def test_numbers_given_again_after_drop(self):
        calls = (add(0), add(0), add(0), drop(1), add(0), drop(2), add(3))
        # 0 has 3, 1; 3 has 2.
        self.assertEqual(nodes_of(*calls, select("*")), [0, 3, 2, 1])

    def test_another_choice_where_the_first_one_fails(self):
        # In one line, tags 0 1 2 1 3 2 4: the nearest 2 above 4 is no child of a 1, another one is.
        line = (add(0, 1), add(1, 2), add(2, 1), add(3, 3), add(4, 2), add(5, 4))
        self.assertEqual(nodes_of(*line, select("1>2 4")), [6])
        self.assertEqual(nodes_of(*line, select("3>2 4")), [6])
        self.assertEqual(nodes_of(*line, select("0>1>2>1 4")), [6])
        self.assertEqual(nodes_of(*line, select("1>2 2>4")), [6])
        self.assertEqual(nodes_of(*line, select("2>3 4")), [])
        # Beside one another, tags 1 2 1 3 2 4.
        row = tuple(add(0, tag) for tag in (1, 2, 1, 3, 2, 4))
        self.assertEqual(nodes_of(*row, select("1+2~4")), [6])
        self.assertEqual(nodes_of(*row, select("3+2~4")), [6])
        self.assertEqual(nodes_of(*row, select("1+2~2+4")), [6])
        self.assertEqual(nodes_of(*row, select("2+3~4")), [])

    def test_another_choice_in_both_ways(self):
        # 0 has 1 (tag 1), 2 (tag 2); 2 has 3 (tag 3), 4 (tag 2); 4 has 5 (tag 5).
        calls = (add(0, 1), add(0, 2), add(2, 3), add(2, 2), add(4, 5))
        self.assertEqual(nodes_of(*calls, select("1+2 5")), [5])
        self.assertEqual(nodes_of(*calls, select("3+2 5")), [5])
        self.assertEqual(nodes_of(*calls, select("1~* *>5")), [5])
        self.assertEqual(nodes_of(*calls, select("3 5")), [])
        self.assertEqual(nodes_of(*calls, select("1 5")), [])

    def test_refusals(self):
        self.assertEqual(ask(select("")), [(-1, [0])])
        self.assertEqual(ask(select("1>")), [(-1, [2])])
        self.assertEqual(ask(select("**")), [(-1, [1])])
        self.assertEqual(ask(select(":not(:not(1))")), [(-1, [6])])
        self.assertEqual(ask(select("*" * 257)), [(-2, [])])
        self.assertEqual(ask(select("1" * 1000)), [(-2, [])])
        self.assertEqual(ask(select("*," * 128 + "*")), [(-2, [])])

    def test_256_bytes_are_the_most(self):
        text = "*," * 127 + "*>"
        self.assertEqual(len(text), 256)
        self.assertEqual(ask(select(text)), [(-1, [256])])
        self.assertEqual(ask(select("*," * 127 + "00")), [(-1, [255])])
        self.assertEqual(ask(select("*," * 127 + "10")), [(1, [0])])

    def test_select_makes_no_rule(self):
        self.assertEqual(ask(select("*"), unrule(1), rule("*"))[1:], [(-1, []), (1, [])])

    def test_64_rules_do_not_hinder_it(self):
        self.assertEqual(last(*[rule("1")] * 64, select("*")), (1, [0]))


class MatchesCall(unittest.TestCase):
    def test_each_node_as_select_tells(self):
        for text, nodes in FOUND:
            told = ask(*TREE, rule(text), *[matches(1, node) for node in range(8)])[len(TREE) + 1:]
            with self.subTest(text=text):
                self.assertEqual(told, [(1 if node in nodes else 0, []) for node in range(8)])

    def test_each_rule_has_its_own_selector(self):
        told = ask(rule("1"), rule("0"), rule("*,1"), matches(1, 0), matches(2, 0), matches(3, 0))
        self.assertEqual(told[3:], [(0, []), (1, []), (1, [])])

    def test_strong_and_property_say_nothing_here(self):
        self.assertEqual(last(rule("0", 5, 6, 7), matches(1, 0)), (1, []))
        self.assertEqual(last(rule("1", 5, 6, 7), matches(1, 0)), (0, []))

    def test_the_rule_comes_first_then_the_node(self):
        self.assertEqual(last(add(0, 1), rule("0"), rule("0"), matches(2, 0)), (1, []))
        self.assertEqual(last(add(0, 1), rule("0"), rule("1"), matches(2, 1)), (1, []))

    def test_no_such_rule_or_node(self):
        told = ask(matches(1, 0), matches(0, 0), rule("*"), matches(0, 0), matches(2, 0), matches(1, 1),
                   matches(GREATEST, 0), matches(1, GREATEST), matches(2, 2), matches(1, 0))
        self.assertEqual([number for number, row in told], [-1, -1, 1, -1, -1, -1, -1, -1, -1, 1])
        self.assertTrue(all(row == [] for number, row in told))

    def test_gone_rules_and_nodes(self):
        self.assertEqual(last(rule("*"), unrule(1), matches(1, 0)), (-1, []))
        self.assertEqual(last(rule("*"), add(0), drop(1), matches(1, 1)), (-1, []))
        self.assertEqual(last(rule("*"), new(0), matches(1, 0)), (-1, []))


if __name__ == "__main__":
    unittest.main()
