"""Points 7, 10 and 11: value, weight and rivals; which rule counts."""

import unittest

from calls import DOWN, GREATEST, add, ask, drop, last, mark, new, rivals, rivals_of, rule, select, unrule, value, weight

WEIGHTS = (
    ("*", 0, 0), ("1", 0, 1), ("0", 0, 1), (".1", 1, 0), ("*.1", 1, 0), ("1.1", 1, 1), (".1.1", 2, 0), (":first", 1, 0),
    (":last", 1, 0), (":empty", 1, 0), (":first:last:empty.1", 4, 0), ("1:first:last:empty.1", 4, 1),
    (":not(1)", 0, 1), (":not(*)", 0, 0), (":not(.1)", 1, 0), (":not(1.1)", 1, 1), (":not(*.1:first)", 2, 0),
    ("1:not(1)", 0, 2), ("1.1:not(2.2:last)", 3, 2), (":not(1):not(2):not(3)", 0, 3), (":not(1.1.2):not(.3)", 3, 1),
    ("1 2", 0, 2), ("1>2", 0, 2), ("1+2", 0, 2), ("1~2", 0, 2), ("* *", 0, 0), ("1 * 2", 0, 2),
    ("1.1>*:first+.2 :not(3:last)~4", 4, 3), ("1 1 1 1", 0, 4),
    # The greatest of the chains, not their sum; the first number before the second.
    ("1,2", 0, 1), ("1,*", 0, 1), ("*,1", 0, 1), ("1 2 3,.1", 1, 0), (".1,1 2 3", 1, 0), (".1,1.1,*.1", 1, 1),
    (".1.1,1.1", 2, 0), ("1.1,.1.1", 2, 0), ("1 1,1 1 1,1", 0, 3), ("*,*", 0, 0), (".1 1 1,.1 1", 1, 2),
)


class WeightCall(unittest.TestCase):
    def test_tests_and_tags_are_counted(self):
        for text, tests, tags in WEIGHTS:
            with self.subTest(text=text):
                self.assertEqual(last(rule(text), weight(1)), (0, [tests, tags]))

    def test_nothing_carries_over(self):
        many = " ".join(["1"] * 128)
        self.assertEqual(last(rule(many), weight(1)), (0, [0, 128]))
        self.assertEqual(last(rule(" ".join(["1"] * 120) + ",.1"), weight(1)), (0, [1, 0]))
        self.assertEqual(last(rule(".1" * 128), weight(1)), (0, [128, 0]))

    def test_it_hangs_on_no_node(self):
        self.assertEqual(last(rule("1.1,0"), weight(1)), (0, [1, 1]))
        self.assertEqual(last(rule("1.1,0", 3, 4, 5), weight(1)), (0, [1, 1]))

    def test_there_is_none(self):
        told = ask(weight(0), weight(1), rule("*"), weight(0), weight(2), weight(GREATEST), unrule(1), weight(1))
        self.assertEqual(told, [(-1, []), (-1, []), (1, []), (-1, []), (-1, []), (-1, []), (0, []), (-1, [])])
        self.assertEqual(last(rule("*"), new(0), weight(1)), (-1, []))

    def test_of_several_rules(self):
        self.assertEqual(ask(rule("*"), rule("1"), rule(".1"), weight(2), weight(3), weight(1))[3:],
                         [(0, [0, 1]), (0, [1, 0]), (0, [0, 0])])


class ValueCall(unittest.TestCase):
    def test_the_rule_and_its_value(self):
        self.assertEqual(last(rule("0", 5, 6), value(0, 5)), (1, [6]))
        self.assertEqual(last(rule("1", 5, 6), rule("0", 5, 7), value(0, 5)), (2, [7]))
        self.assertEqual(last(rule("*", GREATEST, GREATEST), value(0, GREATEST)), (1, [GREATEST]))
        self.assertEqual(last(rule("*", 0, 0), value(0, 0)), (1, [0]))

    def test_none_counts(self):
        self.assertEqual(ask(value(0, 5)), [(0, [])])
        self.assertEqual(ask(value(0, DOWN)), [(0, [])])
        self.assertEqual(last(rule("1", 5, 6), value(0, 5)), (0, []))
        self.assertEqual(last(rule("0", 4, 6), rule("0", 6, 6, 1), value(0, 5)), (0, []))
        self.assertEqual(last(add(0, 1), rule("2", DOWN, 6), value(1, DOWN)), (0, []))

    def test_it_is_no_node(self):
        told = ask(rule("*", 5, 6), value(1, 5), value(128, 5), value(GREATEST, 5), value(1, DOWN), add(0), drop(1),
                   value(1, 5), value(1, 9))
        self.assertEqual([number for number, row in told], [1, -1, -1, -1, -1, 1, 0, -1, -1])
        self.assertTrue(all(row == [] for number, row in told))

    def test_the_node_comes_first_then_the_property(self):
        self.assertEqual(last(add(0, 1), rule("0", 1, 8), rule("1", 0, 9), value(1, 0)), (2, [9]))
        self.assertEqual(last(add(0, 1), rule("0", 1, 8), rule("1", 0, 9), value(0, 1)), (1, [8]))

    def test_the_later_one_of_the_same_weight(self):
        self.assertEqual(last(rule("*", 5, 6), rule("*", 5, 7), value(0, 5)), (2, [7]))
        self.assertEqual(last(rule("0", 5, 6), rule(":not(1)", 5, 7), rule("0", 5, 8), value(0, 5)), (3, [8]))
        self.assertEqual(last(rule(":first", 5, 6), rule(":empty", 5, 7), value(0, 5)), (2, [7]))

    def test_the_later_one_may_have_the_lesser_number(self):
        calls = (rule("*", 5, 10), rule("*", 5, 20), rule("*", 5, 30), unrule(1), rule("*", 5, 40))
        self.assertEqual(last(*calls, value(0, 5)), (1, [40]))
        self.assertEqual(last(*calls, unrule(1), value(0, 5)), (3, [30]))
        self.assertEqual(last(*calls, unrule(2), rule("*", 5, 50), value(0, 5)), (2, [50]))

    def test_the_greater_weight_before_the_later_one(self):
        self.assertEqual(last(rule("0", 5, 6), rule("*", 5, 7), value(0, 5)), (1, [6]))
        self.assertEqual(last(rule(":first", 5, 6), rule("0", 5, 7), value(0, 5)), (1, [6]))
        self.assertEqual(last(rule("0:first", 5, 6), rule(":first", 5, 7), value(0, 5)), (1, [6]))
        self.assertEqual(last(rule("*", 5, 6), rule("0", 5, 7), value(0, 5)), (2, [7]))

    def test_tests_before_tags_however_many(self):
        line = [add(k) for k in range(127)]
        tags = rule(" ".join(["0"] * 128), 5, 7)
        self.assertEqual(last(*line, rule(":empty", 5, 6), tags, value(127, 5)), (1, [6]))
        self.assertEqual(last(*line, rule("0", 5, 6), tags, value(127, 5)), (2, [7]))
        exceptions = rule("".join([":not(1)"] * 36), 5, 7)
        self.assertEqual(last(rule(":empty", 5, 6), exceptions, value(0, 5)), (1, [6]))

    def test_the_weight_is_that_of_the_chains_that_match_the_node(self):
        # At the root only "*" of rule 1 matches, though its other chain weighs more.
        calls = (add(0, 1), rule("*,1.5:first", 5, 6), rule("*:not(9)", 5, 7), mark(1, 5, 1))
        self.assertEqual(last(*calls, value(0, 5)), (2, [7]))
        self.assertEqual(last(*calls, value(1, 5)), (1, [6]))

    def test_a_strong_one_before_all_others(self):
        self.assertEqual(last(rule("*", 5, 6, 1), rule("*", 5, 7), value(0, 5)), (1, [6]))
        self.assertEqual(last(rule("*", 5, 6, 1), rule("0:first:last", 5, 7), value(0, 5)), (1, [6]))
        self.assertEqual(last(rule("0:first:last", 5, 7), rule("*", 5, 6, 1), value(0, 5)), (2, [6]))
        for strong in (2, 256, DOWN, GREATEST):
            self.assertEqual(last(rule("*", 5, 6, strong), rule("0", 5, 7), value(0, 5)), (1, [6]))

    def test_among_strong_ones_the_weight_then_the_later_one(self):
        self.assertEqual(last(rule("0", 5, 6, 1), rule("*", 5, 7, GREATEST), value(0, 5)), (1, [6]))
        self.assertEqual(last(rule("0", 5, 6, 9), rule("0", 5, 7, 1), rule("0:first", 5, 8), value(0, 5)), (2, [7]))

    def test_a_strong_one_that_does_not_match_says_nothing(self):
        self.assertEqual(last(rule("1", 5, 6, 1), rule("*", 5, 7), value(0, 5)), (2, [7]))
        self.assertEqual(last(rule("0", 4, 6, 1), rule("*", 5, 7), value(0, 5)), (2, [7]))


class HandedDown(unittest.TestCase):
    def test_from_the_parent(self):
        for property_number in (DOWN, DOWN + 1, GREATEST):
            self.assertEqual(last(add(0, 1), rule("0", property_number, 6), value(1, property_number)), (1, [6]))

    def test_below_2_to_the_31_nothing_is_handed_down(self):
        for property_number in (0, 1, DOWN - 1):
            calls = (add(0, 1), rule("0", property_number, 6, 1))
            self.assertEqual(last(*calls, value(1, property_number)), (0, []))
            self.assertEqual(last(*calls, value(0, property_number)), (1, [6]))

    def test_past_several_nodes_up_to_the_root(self):
        line = (add(0, 1), add(1, 2), add(2, 3), add(3, 4))
        told = ask(*line, rule("0", DOWN, 6), *[value(node, DOWN) for node in range(5)])[5:]
        self.assertEqual(told, [(1, [6])] * 5)

    def test_from_the_nearest_that_has_one(self):
        line = (add(0, 1), add(1, 2), add(2, 3), add(3, 4))
        told = ask(*line, rule("2", DOWN, 7), rule("0:first", DOWN, 6, 1), *[value(node, DOWN) for node in range(5)])
        self.assertEqual(told[6:], [(2, [6]), (2, [6]), (1, [7]), (1, [7]), (1, [7])])

    def test_the_nodes_own_rule_before_any_that_is_handed_down(self):
        calls = (add(0, 1), rule("*:not(0)", DOWN, 7), rule("0:first:last", DOWN, 6, 1))
        self.assertEqual(last(*calls, value(1, DOWN)), (1, [7]))
        self.assertEqual(last(*calls, value(0, DOWN)), (2, [6]))

    def test_not_from_children_or_those_beside(self):
        calls = (add(0, 1), add(0, 2), add(2, 3), rule("1,3", DOWN, 6, 1))
        self.assertEqual(last(*calls, value(2, DOWN)), (0, []))
        self.assertEqual(last(*calls, value(0, DOWN)), (0, []))

    def test_what_counts_above_counts_by_the_weights_there(self):
        # Node 2 has no rule of its own. At node 1 rule 2 weighs more, for as long as class 5 is on.
        calls = (add(0, 1), add(1, 2), rule("1,0:first", DOWN, 6), rule("1.5,0.5", DOWN, 7), mark(1, 5, 1))
        self.assertEqual(last(*calls, value(2, DOWN)), (2, [7]))
        self.assertEqual(last(*calls, value(0, DOWN)), (1, [6]))
        self.assertEqual(last(*calls, mark(1, 5, 0), value(2, DOWN)), (1, [6]))

    def test_only_rules_for_this_very_property(self):
        calls = (add(0, 1), rule("1", DOWN, 7, 1), rule("0", DOWN + 1, 8))
        self.assertEqual(last(*calls, value(1, DOWN + 1)), (2, [8]))


class RivalsCall(unittest.TestCase):
    def test_there_are_none(self):
        self.assertEqual(ask(rivals(0, 5)), [(0, [])])
        self.assertEqual(last(rule("1", 5, 6), rule("0", 4, 6), rivals(0, 5)), (0, []))

    def test_each_with_its_weight(self):
        self.assertEqual(last(rule("0:first", 5, 6), rivals(0, 5)), (1, [1, 1, 1]))
        self.assertEqual(last(rule("0", 5, 6), rule(":first", 5, 6), rivals(0, 5)), (2, [2, 1, 0, 1, 0, 1]))

    def test_in_the_order_in_which_they_would_count(self):
        calls = (rule("*", 5, 1), rule("0", 5, 2), rule("*", 5, 3, 1), rule("0", 5, 4), rule(":first", 5, 5),
                 rule("0", 5, 6, 1), rule("*", 5, 7), rule("1", 5, 8, 1), rule("0", 6, 9, 1))
        self.assertEqual(rivals_of(*calls, rivals(0, 5)), [
            (6, 0, 1), (3, 0, 0), (5, 1, 0), (4, 0, 1), (2, 0, 1), (7, 0, 0), (1, 0, 0)])

    def test_the_one_that_counts_without_those_before_it(self):
        calls = [rule("*", 5, 1), rule("0", 5, 2), rule("*", 5, 3, 1), rule("0", 5, 4), rule(":first", 5, 5)]
        for number, tests, tags in rivals_of(*calls, rivals(0, 5)):
            self.assertEqual(last(*calls, value(0, 5))[0], number)
            calls.append(unrule(number))
        self.assertEqual(last(*calls, value(0, 5)), (0, []))

    def test_the_later_one_first_whatever_its_number(self):
        calls = (rule("*", 5), rule("*", 5), rule("*", 5), unrule(1), unrule(2), rule("*", 5), rule("*", 5))
        self.assertEqual(rivals_of(*calls, rivals(0, 5)), [(2, 0, 0), (1, 0, 0), (3, 0, 0)])

    def test_the_weight_is_that_of_the_chains_that_match_the_node(self):
        calls = (add(0, 1), rule("*,0,1.5,.9.9.9", 5), mark(1, 5, 1))
        self.assertEqual(last(*calls, weight(1)), (0, [3, 0]))
        self.assertEqual(rivals_of(*calls, rivals(0, 5)), [(1, 0, 1)])
        self.assertEqual(rivals_of(*calls, rivals(1, 5)), [(1, 1, 1)])
        self.assertEqual(rivals_of(*calls, mark(1, 5, 0), rivals(1, 5)), [(1, 0, 0)])
        self.assertEqual(rivals_of(*calls, mark(1, 9, 1), rivals(1, 5)), [(1, 3, 0)])

    def test_the_whole_chain_weighs(self):
        calls = (add(0, 1), add(1, 2), rule("0:first>1 2,2", 5))
        self.assertEqual(last(*calls, rivals(2, 5)), (1, [1, 1, 3]))
        self.assertEqual(last(*calls, add(0, 2), rivals(3, 5)), (1, [1, 0, 1]))

    def test_those_of_this_node_alone(self):
        calls = (add(0, 1), rule("0", DOWN, 6, 1))
        self.assertEqual(last(*calls, rivals(1, DOWN)), (0, []))
        self.assertEqual(last(*calls, value(1, DOWN)), (1, [6]))
        self.assertEqual(last(*calls, rule("1", DOWN, 7), rivals(1, DOWN)), (1, [2, 0, 1]))

    def test_it_is_no_node(self):
        told = ask(rule("*", 5), rivals(1, 5), rivals(GREATEST, 5), add(0), drop(1), rivals(1, 5), rivals(1, 9))
        self.assertEqual(told, [(1, []), (-1, []), (-1, []), (1, []), (0, []), (-1, []), (-1, [])])

    def test_the_node_comes_first_then_the_property(self):
        self.assertEqual(last(add(0, 1), rule("0", 1), rule("1", 0), rivals(1, 0)), (1, [2, 0, 1]))

    def test_64_rivals(self):
        self.assertEqual(rivals_of(*[rule("*", 5)] * 64, rivals(0, 5)), [(k, 0, 0) for k in range(64, 0, -1)])


class SomethingCountsJustWhereSomethingMatches(unittest.TestCase):
    """P3."""

    def test_value_and_rivals_agree(self):
        tree = [add(0, 1), add(0, 2), add(1, 2), mark(3, 5, 1), mark(0, 5, 1)]
        rules = [rule("1", 5, 11), rule(".5", 5, 12), rule("2:not(.5)", 5, 13, 1), rule("1 *", 5, 14, 1)]
        for node in range(4):
            first = rivals_of(*tree, *rules, rivals(node, 5))[:1]
            number, row = last(*tree, *rules, value(node, 5))
            self.assertEqual([number], [rival[0] for rival in first])
            self.assertEqual(row, [10 + number])

    def test_select_and_rules_change_nothing(self):
        told = ask(rule("0", 5, 6), value(0, 5), select("*"), weight(1), rivals(0, 5), value(1, 5), value(0, 5))
        self.assertEqual((told[1], told[-1]), ((1, [6]), (1, [6])))


if __name__ == "__main__":
    unittest.main()
