"""Points 5 and 6: rule and unrule, their numbers, their limits, their refusals."""

import unittest

from calls import GREATEST, ask, bytes_of, numbers, rule, unrule
from treestylesdesk.desk import Document, answer_call
from treestylesdesk.sheet import Sheet


def seen(sheet):
    """All that a sheet holds, in the order in which the rules came."""
    return [(number, held.property_number, held.value, held.strong, len(held.selector.kinds))
            for number, held in sheet.rules.items()]


class RuleCall(unittest.TestCase):
    def test_numbers_go_up_from_1(self):
        self.assertEqual(numbers(rule("*"), rule("1"), rule("*")), [1, 2, 3])

    def test_a_rule_keeps_what_it_is_handed(self):
        sheet = Sheet()
        self.assertEqual(sheet.rule(5, 6, 0, bytes_of("1,2")), [1])
        self.assertEqual(sheet.rule(GREATEST, GREATEST, GREATEST, bytes_of("*")), [2])
        self.assertEqual(sheet.rule(0, 0, 2, bytes_of("*")), [3])
        self.assertEqual(seen(sheet), [
            (1, 5, 6, False, 2), (2, GREATEST, GREATEST, True, 1), (3, 0, 0, True, 1)])

    def test_the_desk_hands_property_value_strong_on_in_this_order(self):
        document = Document()
        self.assertEqual(answer_call(document, 5, [7, 8, 0], bytes_of("*")), [1])
        self.assertEqual(answer_call(document, 5, [0, 8, 9], bytes_of("*")), [2])
        self.assertEqual(seen(document.sheet), [(1, 7, 8, False, 1), (2, 0, 8, True, 1)])

    def test_the_same_rule_twice_is_two_rules(self):
        self.assertEqual(numbers(rule("1", 5, 6), rule("1", 5, 6), unrule(1), unrule(2)), [1, 2, 0, 0])

    def test_the_text_is_not_changed(self):
        text = bytes_of("1>2:not(.3)")
        Sheet().rule(0, 0, 0, text)
        self.assertEqual(text, bytes_of("1>2:not(.3)"))

    def test_256_bytes_are_the_most(self):
        self.assertEqual(ask(rule(".1:last" + ":first" * 41 + ".12")), [(1, [])])
        self.assertEqual(len(".1:last" + ":first" * 41 + ".12"), 256)
        self.assertEqual(ask(rule(".1:last" + ":first" * 41 + ".123")), [(-2, [])])

    def test_a_fault_in_256_and_in_257_bytes(self):
        self.assertEqual(ask(rule("1>" * 128)), [(-1, [256])])
        self.assertEqual(ask(rule("1>" * 127 + "1x")), [(-1, [255])])
        self.assertEqual(ask(rule("1>" * 128 + "1")), [(-2, [])])
        self.assertEqual(ask(rule("1>" * 128 + "x")), [(-2, [])])
        self.assertEqual(ask(rule("x" * 257)), [(-2, [])])

    def test_64_rules_are_the_most(self):
        told = numbers(*[rule("*")] * 65, unrule(64), rule("1"), rule("1"))
        self.assertEqual(told, list(range(1, 65)) + [-3, 0, 64, -3])

    def test_the_refusals_in_their_order(self):
        told = ask(*[rule("*")] * 64, rule("x" * 257), rule("*" * 257), rule("1x"), rule(""), rule("1"))
        self.assertEqual(told[64:], [(-2, []), (-2, []), (-1, [1]), (-1, [0]), (-3, [])])

    def test_the_least_free_number_after_unrules(self):
        told = numbers(*[rule("*")] * 5, unrule(4), unrule(2), rule("*"), rule("*"), rule("*"))
        self.assertEqual(told, [1, 2, 3, 4, 5, 0, 0, 2, 4, 6])
        self.assertEqual(numbers(rule("*"), unrule(1), rule("*")), [1, 0, 1])

    def test_a_new_rule_is_the_latest_whatever_its_number(self):
        sheet = Sheet()
        for value in (10, 20, 30):
            sheet.rule(1, value, 0, bytes_of("*"))
        sheet.unrule(1)
        self.assertEqual(sheet.rule(1, 40, 0, bytes_of("*")), [1])
        self.assertEqual([(row[0], row[2]) for row in seen(sheet)], [(2, 20), (3, 30), (1, 40)])

    def test_refused_nothing_is_changed(self):
        sheet = Sheet()
        sheet.rule(1, 2, 3, bytes_of("*"))
        before = seen(sheet)
        self.assertEqual(sheet.rule(4, 5, 6, bytes_of("*" * 257)), [-2])
        self.assertEqual(sheet.rule(4, 5, 6, bytes_of("**")), [-1, 1])
        self.assertEqual(seen(sheet), before)
        for k in range(63):
            sheet.rule(k, k, k, bytes_of("*"))
        before = seen(sheet)
        self.assertEqual(sheet.rule(4, 5, 6, bytes_of("*")), [-3])
        self.assertEqual(seen(sheet), before)

    def test_a_refused_rule_takes_no_number(self):
        self.assertEqual(ask(rule("x"), rule("*" * 300), rule("*"), rule(""), rule("*")),
                         [(-1, [0]), (-2, []), (1, []), (-1, [0]), (2, [])])


class UnruleCall(unittest.TestCase):
    def test_it_is_gone(self):
        self.assertEqual(numbers(rule("*"), rule("*"), unrule(1), unrule(1), unrule(2), unrule(2)),
                         [1, 2, 0, -1, 0, -1])

    def test_only_that_one_is_gone(self):
        sheet = Sheet()
        for value in (10, 20, 30):
            sheet.rule(1, value, 0, bytes_of("*"))
        self.assertEqual(sheet.unrule(2), [0])
        self.assertEqual([(row[0], row[2]) for row in seen(sheet)], [(1, 10), (3, 30)])

    def test_there_is_none(self):
        self.assertEqual(numbers(unrule(0), unrule(1), rule("*"), unrule(0), unrule(2), unrule(GREATEST), unrule(1)),
                         [-1, -1, 1, -1, -1, -1, 0])

    def test_refused_nothing_is_changed(self):
        sheet = Sheet()
        sheet.rule(1, 2, 3, bytes_of("*"))
        before = seen(sheet)
        self.assertEqual([sheet.unrule(0), sheet.unrule(2)], [[-1], [-1]])
        self.assertEqual(seen(sheet), before)


if __name__ == "__main__":
    unittest.main()
