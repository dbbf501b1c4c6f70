"""P2 and P4: what is told hangs on the tree and the rules as they are, and on no trace of how they came to be."""

import random
import unittest

from calls import DOWN, add, ask, drop, last, mark, matches, new, nodes_of, rivals, rule, select, unrule, value, weight
from words import Words


class AfterEachCall(unittest.TestCase):
    """The same questions before and after a change, in one list of calls."""

    def check(self, setup, change, questions, before, after):
        told = ask(*setup, *questions, change, *questions)[len(setup):]
        count = len(questions)
        self.assertEqual(told[:count], before)
        self.assertEqual(told[count + 1:], after)
        # The change alone, with nothing asked before it, leads to the same.
        self.assertEqual(ask(*setup, change, *questions)[-count:], after)

    def test_new(self):
        self.check([add(0, 1), rule("0:first", 5, 6)], new(0),
                   [value(0, 5), matches(1, 0), select("*"), rivals(0, 5), weight(1)],
                   [(1, [6]), (1, []), (2, [0, 1]), (1, [1, 1, 1]), (0, [1, 1])],
                   [(0, []), (-1, []), (1, [0]), (0, []), (-1, [])])

    def test_new_with_another_tag(self):
        self.check([], new(4), [select("0"), select("4")], [(1, [0]), (0, [])], [(0, []), (1, [0])])
        told = ask(rule("4", 5, 6), value(0, 5), new(4), rule("4", 5, 6), value(0, 5), matches(1, 0))
        self.assertEqual(told, [(1, []), (0, []), (0, []), (1, []), (1, [6]), (1, [])])

    def test_add_makes_a_node_no_more_empty(self):
        self.check([rule(":empty", DOWN, 6), rule("0", DOWN, 7)], add(0, 1),
                   [value(0, DOWN), matches(1, 0), select(":empty"), rivals(0, DOWN)],
                   [(1, [6]), (1, []), (1, [0]), (2, [1, 1, 0, 2, 0, 1])],
                   [(2, [7]), (0, []), (1, [1]), (1, [2, 0, 1])])

    def test_add_makes_a_node_no_more_the_last(self):
        self.check([add(0, 1), rule("1:last", 5, 6)], add(0, 1),
                   [value(1, 5), matches(1, 1), select(":last"), rivals(1, 5), value(2, 5)],
                   [(1, [6]), (1, []), (2, [0, 1]), (1, [1, 1, 1]), (-1, [])],
                   [(0, []), (0, []), (2, [0, 2]), (0, []), (1, [6])])

    def test_drop_makes_a_node_empty_again(self):
        self.check([add(0, 1), rule(":not(:empty)", 5, 6)], drop(1),
                   [value(0, 5), matches(1, 0), select("*"), rivals(0, 5), matches(1, 1)],
                   [(1, [6]), (1, []), (2, [0, 1]), (1, [1, 1, 0]), (0, [])],
                   [(0, []), (0, []), (1, [0]), (0, []), (-1, [])])

    def test_drop_of_a_node_on_the_way(self):
        self.check([add(0, 1), add(0, 2), add(0, 3), rule("1~3", 5, 6), rule("1+3", 5, 7), rule("2+3", 5, 8)], drop(2),
                   [value(3, 5), matches(2, 3), select("1+*"), rivals(3, 5)],
                   [(3, [8]), (0, []), (1, [2]), (2, [3, 0, 2, 1, 0, 2])],
                   [(2, [7]), (1, []), (1, [3]), (2, [2, 0, 2, 1, 0, 2])])

    def test_drop_of_the_first_and_of_the_last(self):
        setup = [add(0, 1), add(0, 2), add(0, 3)]
        self.check(setup, drop(1), [select(":first")], [(2, [0, 1])], [(2, [0, 2])])
        self.check(setup, drop(3), [select(":last")], [(2, [0, 3])], [(2, [0, 2])])

    def test_mark_on(self):
        self.check([add(0, 1), add(1, 2), rule(".5 2", 5, 6), rule("2", 5, 7)], mark(0, 5, 1),
                   [value(2, 5), matches(1, 2), select(".5 *"), rivals(2, 5)],
                   [(2, [7]), (0, []), (0, []), (1, [2, 0, 1])],
                   [(1, [6]), (1, []), (2, [1, 2]), (2, [1, 1, 1, 2, 0, 1])])

    def test_mark_off(self):
        self.check([add(0, 1), mark(0, 5, 1), rule("0.5", DOWN, 6)], mark(0, 5, 0),
                   [value(1, DOWN), matches(1, 0), select(":not(.5)"), rivals(0, DOWN)],
                   [(1, [6]), (1, []), (1, [1]), (1, [1, 1, 1])],
                   [(0, []), (0, []), (2, [0, 1]), (0, [])])

    def test_rule(self):
        self.check([rule("*", 5, 6)], rule("*", 5, 7),
                   [value(0, 5), matches(2, 0), select("*"), rivals(0, 5), weight(2)],
                   [(1, [6]), (-1, []), (1, [0]), (1, [1, 0, 0]), (-1, [])],
                   [(2, [7]), (1, []), (1, [0]), (2, [2, 0, 0, 1, 0, 0]), (0, [0, 0])])

    def test_unrule(self):
        self.check([rule("*", 5, 6), rule("0", 5, 7, 1)], unrule(2),
                   [value(0, 5), matches(2, 0), select("*"), rivals(0, 5), weight(2)],
                   [(2, [7]), (1, []), (1, [0]), (2, [2, 0, 1, 1, 0, 0]), (0, [0, 1])],
                   [(1, [6]), (-1, []), (1, [0]), (1, [1, 0, 0]), (-1, [])])

    def test_another_rule_under_the_same_number(self):
        told = ask(rule("0", 5, 6, 1), value(0, 5), matches(1, 0), weight(1), unrule(1), rule("1.5", 5, 7),
                   value(0, 5), matches(1, 0), weight(1), rivals(0, 5))
        self.assertEqual(told[1:4], [(1, [6]), (1, []), (0, [0, 1])])
        self.assertEqual(told[6:], [(0, []), (0, []), (0, [1, 1]), (0, [])])

    def test_another_node_under_the_same_number(self):
        told = ask(add(0, 1), mark(1, 5, 1), rule("1.5", 5, 6), value(1, 5), drop(1), add(0, 1), value(1, 5),
                   mark(1, 5, 1), value(1, 5))
        self.assertEqual((told[3], told[6], told[8]), ((1, [6]), (0, []), (1, [6])))

    def test_back_and_forth(self):
        calls = [rule("0.5", 5, 6)] + [mark(0, 5, 1), value(0, 5), mark(0, 5, 0), value(0, 5)] * 5
        self.assertEqual(ask(*calls)[1:], [(0, []), (1, [6]), (0, []), (0, [])] * 5)

    def test_refused_calls_change_nothing_that_is_told(self):
        setup = [add(0, 1), add(1, 2), mark(1, 5, 1), rule("1.5", DOWN, 6), rule("*", DOWN, 7)]
        questions = [value(2, DOWN), matches(1, 1), select("*"), rivals(1, DOWN), weight(1)]
        before = ask(*setup, *questions)[len(setup):]
        for refused in (add(9, 1), drop(0), drop(1), drop(9), mark(9, 5, 1), rule("x", DOWN, 8, 1), unrule(3), unrule(0),
                        rule("*" * 257, DOWN, 8, 1), value(9, DOWN), matches(9, 0), select("x"), rivals(9, 1), weight(9)):
            told = ask(*setup, refused, *questions)[len(setup):]
            self.assertLess(told[0][0], 0)
            self.assertEqual(told[1:], before)


class NoTrace(unittest.TestCase):
    """Two ways to the same tree and the same sheet: the same is told."""

    QUESTIONS = ([value(node, property_number) for node in range(4) for property_number in (5, DOWN)]
                 + [rivals(node, 5) for node in range(4)] + [select("*"), select(".5"), select("1+*"), select(":empty")])

    def test_detours(self):
        rules = [rule("1", 5, 1), rule(".5", 5, 2), rule("0", DOWN, 3), rule("2:last", 5, 4)]
        straight = [add(0, 1), add(0, 2), add(1, 2), mark(1, 5, 1)] + rules
        detours = ([rule("*", 5, 9, 1), unrule(1)] + [add(0, 7), mark(1, 5, 1), drop(1), add(0, 1), mark(1, 6, 1)]
                   + [add(1, 9), drop(2), add(0, 2), mark(1, 6, 0), add(2, 1), drop(3), add(1, 2), mark(1, 5, 1)]
                   + rules[:2] + [rule("9"), select("9"), unrule(3)] + rules[2:])
        count = len(self.QUESTIONS)
        self.assertEqual(ask(*straight, *self.QUESTIONS)[-count:], ask(*detours, *self.QUESTIONS)[-count:])

    def test_the_order_of_the_rules_is_a_trace_that_counts(self):
        one, two = rule("*", 5, 6), rule("*", 5, 7)
        self.assertEqual(last(one, two, value(0, 5)), (2, [7]))
        self.assertEqual(last(two, one, value(0, 5)), (2, [6]))

    def test_the_order_of_the_children_is_a_trace_that_counts(self):
        self.assertEqual(nodes_of(add(0, 1), add(0, 2), select("1+2")), [2])
        self.assertEqual(nodes_of(add(0, 1), add(0, 2), drop(1), add(0, 1), select("1+2")), [])


def some_kind(chance, inner):
    """The text of a kind, drawn by chance, with small numbers so that much of it matches."""
    head = chance.choice(["", "*", "*", "0", "1", "2"])
    tests = []
    for k in range(chance.choice([0, 0, 0, 1, 1, 2])):
        choices = [".0", ".1", ":first", ":last", ":empty"]
        if not inner:
            choices += [":not(" + some_kind(chance, True) + ")"] * 2
        tests.append(chance.choice(choices))
    return head + "".join(tests) or "*"


def some_text(chance):
    chains = []
    for k in range(chance.choice([1, 1, 2, 3])):
        chain = some_kind(chance, False)
        for j in range(chance.choice([0, 1, 1, 2, 3])):
            chain += chance.choice(" >+~") + some_kind(chance, False)
        chains.append(chain)
    return ",".join(chains)


def some_node(chance):
    """Lesser numbers more often, as there are more nodes with such."""
    return min(chance.randrange(16), chance.randrange(16))


def some_change(chance):
    node = some_node(chance)
    rule_number = chance.randrange(12)
    return chance.choice([
        lambda: ("add", node, chance.randrange(3)), lambda: ("add", node, chance.randrange(3)),
        lambda: ("add", node, chance.randrange(3)), lambda: ("drop", node), lambda: ("unrule", rule_number),
        lambda: ("mark", node, chance.randrange(2), chance.randrange(2)), lambda: ("mark", node, chance.randrange(2), 1),
        lambda: ("rule", some_text(chance), chance.choice([1, DOWN]), chance.randrange(9), chance.choice([0, 0, 1])),
        lambda: ("rule", some_text(chance), chance.choice([1, DOWN]), chance.randrange(9), chance.choice([0, 0, 1]))])()


def some_question(chance):
    node = some_node(chance)
    rule_number = chance.randrange(12)
    return chance.choice([
        lambda: ("value", node, 1), lambda: ("value", node, DOWN), lambda: ("rivals", node, 1),
        lambda: ("rivals", node, DOWN), lambda: ("matches", rule_number, node), lambda: ("select", some_text(chance)),
        lambda: ("weight", rule_number)])()


WRITERS = {"new": new, "add": add, "drop": drop, "mark": mark, "rule": rule, "unrule": unrule, "value": value,
           "matches": matches, "select": select, "weight": weight, "rivals": rivals}


class ByTheWords(unittest.TestCase):
    """Long rows of calls, compared with a program that takes the document's words as they stand."""

    def test_rows_of_calls(self):
        # A fixed seed, so that each run is the same.
        chance = random.Random(20)
        seen = {}
        for k in range(150):
            calls = []
            for j in range(400):
                draw = chance.randrange(1000)
                if draw == 0:
                    calls.append(("new", chance.randrange(3)))
                elif draw < 500:
                    calls.append(some_change(chance))
                else:
                    calls.append(some_question(chance))
            words = Words()
            wanted = [words.answer(call) for call in calls]
            told = ask(*[WRITERS[call[0]](*call[1:]) for call in calls])
            for j in range(400):
                self.assertEqual(told[j], wanted[j], calls[:j + 1])
                seen[calls[j][0]] = seen.get(calls[j][0], 0) + (1 if told[j][0] > 0 else 0)
        # What is compared is worth comparing only where much of it says more than none.
        for name in ("value", "rivals", "matches", "select"):
            self.assertGreater(seen[name], 500, name)


if __name__ == "__main__":
    unittest.main()
