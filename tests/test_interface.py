"""The form in which calls are handed in and answers are given back."""

import unittest

from calls import (DOWN, GREATEST, add, bytes_of, drop, mark, matches, new, rivals, rule, select, split, unrule, value,
                   weight)
from treestylesdesk.desk import answers

MIXED = (add(0, 3) + mark(1, 5, 1) + rule("3.5>*") + rule("3..") + drop(0) + unrule(1)
         + unrule(1) + new(9) + drop(1) + rule("") + rule("*" * 257))
ASKED = (add(0, 3) + mark(1, 5, 1) + rule("3.5,*", DOWN, 8) + rule("0", DOWN, 9, 1) + value(1, DOWN) + value(0, DOWN)
         + value(0, 7) + value(4, DOWN) + matches(1, 1) + matches(2, 1) + matches(3, 1) + select("*") + select("4")
         + select("4>") + select("4" * 257) + weight(1) + weight(3) + rivals(0, DOWN) + rivals(1, DOWN) + rivals(1, 7)
         + rivals(4, DOWN))


class Form(unittest.TestCase):
    def test_each_call_tells_how_many_numbers_it_answers(self):
        self.assertEqual(answers([1, 7]), [2, 0, 0])
        self.assertEqual(answers([2, 0, 7]), [2, 1, 0])
        self.assertEqual(answers([2, 0, 7, 3, 1]), [2, 1, 0, 2, 0, 0])
        self.assertEqual(answers([4, 0, 7, 1]), [2, 0, 0])
        self.assertEqual(answers([5, 1, 2, 0, 1, 42]), [2, 1, 0])
        self.assertEqual(answers([5, 1, 2, 0, 1, 42, 6, 1]), [2, 1, 0, 2, 0, 0])

    def test_a_refusal_has_an_empty_row_but_for_the_place_of_a_fault(self):
        self.assertEqual(answers([2, 1, 7]), [2, -1, 0])
        self.assertEqual(answers([3, 0]), [2, -2, 0])
        self.assertEqual(answers([4, 1, 7, 1]), [2, -1, 0])
        self.assertEqual(answers([6, 1]), [2, -1, 0])
        self.assertEqual(answers([5, 1, 2, 0, 2, 42, 42]), [3, -1, 1, 1])
        self.assertEqual(answers([5, 1, 2, 0, 257] + [42] * 257), [2, -2, 0])

    def test_calls_of_all_kinds_behind_one_another(self):
        self.assertEqual(answers(MIXED), [
            2, 1, 0, 2, 0, 0, 2, 1, 0, 3, -1, 1, 2, 2, -2, 0, 2, 0, 0,
            2, -1, 0, 2, 0, 0, 2, -1, 0, 3, -1, 1, 0, 2, -2, 0])

    def test_what_each_question_hands_back(self):
        self.assertEqual(answers(ASKED), [
            2, 1, 0, 2, 0, 0, 2, 1, 0, 2, 2, 0,
            3, 1, 1, 8, 3, 2, 1, 9, 2, 0, 0, 2, -1, 0,
            2, 1, 0, 2, 0, 0, 2, -1, 0,
            4, 2, 2, 0, 1, 2, 0, 0, 3, -1, 1, 2, 2, -2, 0,
            4, 0, 2, 1, 1, 2, -1, 0,
            8, 2, 6, 2, 0, 1, 1, 0, 0, 5, 1, 3, 1, 1, 1, 2, 0, 0, 2, -1, 0])

    def test_each_question_by_its_own_numbers(self):
        self.assertEqual(answers([5, 7, 8, 0, 1, 42, 7, 0, 7]), [2, 1, 0, 3, 1, 1, 8])
        self.assertEqual(answers([5, 7, 8, 0, 1, 42, 8, 1, 0]), [2, 1, 0, 2, 1, 0])
        self.assertEqual(answers([9, 1, 42]), [3, 1, 1, 0])
        self.assertEqual(answers([9, 0]), [3, -1, 1, 0])
        self.assertEqual(answers([5, 7, 8, 0, 1, 48, 10, 1]), [2, 1, 0, 4, 0, 2, 0, 1])
        self.assertEqual(answers([5, 7, 8, 0, 1, 48, 11, 0, 7]), [2, 1, 0, 5, 1, 3, 1, 0, 1])
        self.assertEqual(answers([7, 1, 7, 8, 1, 0, 10, 1, 11, 1, 7]), [2, -1, 0] * 4)
        self.assertEqual(answers([7, 0, 7, 11, 0, 7]), [2, 0, 0] * 2)

    def test_questions_with_numbers_as_great_as_told(self):
        most = GREATEST
        self.assertEqual(answers([7, most, most, 8, most, most, 10, most, 11, most, most]), [2, -1, 0] * 4)
        self.assertEqual(answers([5, most, most, most, 1, 42, 7, 0, most, 11, 0, most]),
                         [2, 1, 0, 3, 1, 1, most, 5, 1, 3, 1, 0, 0])

    def test_the_bytes_of_a_select_are_only_a_text(self):
        self.assertEqual(answers([9, 3, 2, 0, 7] + [2, 0, 7]), [3, -1, 1, 0, 2, 1, 0])
        self.assertEqual(answers(select("*" * 1000) + add(0)), [2, -2, 0, 2, 1, 0])

    def test_numbers_may_be_as_great_as_told(self):
        most = GREATEST
        self.assertEqual(
            answers([1, most, 2, most, most, 3, most, 4, most, most, most, 6, most,
                     2, 0, most, 4, 1, most, most, 5, most, most, most, 1, 42]),
            [2, 0, 0, 2, -1, 0, 2, -1, 0, 2, -1, 0, 2, -1, 0, 2, 1, 0, 2, 0, 0, 2, 1, 0])

    def test_a_text_that_looks_like_calls_is_only_a_text(self):
        self.assertEqual(answers([5, 0, 0, 0, 3, 2, 0, 7] + [2, 0, 7]), [3, -1, 1, 0, 2, 1, 0])

    def test_a_text_of_1000_bytes_is_stepped_over(self):
        self.assertEqual(answers(rule("*" * 1000) + add(0)), [2, -2, 0, 2, 1, 0])

    def test_400_calls(self):
        self.assertEqual(answers([1, 0] * 400), [2, 0, 0] * 400)

    def test_all_that_is_answered_is_whole_numbers_in_a_list(self):
        for calls in (MIXED, ASKED):
            told = answers(calls)
            self.assertIs(type(told), list)
            self.assertEqual({type(number) for number in told}, {int})


class NothingKept(unittest.TestCase):
    def test_what_is_handed_in_stays_as_it_was(self):
        class Watched(list):
            """A list that takes no change, not for a while either."""

            def refuse(self, *given):
                raise AssertionError("the list of calls was changed")

            append = extend = insert = pop = remove = clear = sort = reverse = refuse
            __setitem__ = __delitem__ = __iadd__ = __imul__ = refuse

        for calls in (MIXED, ASKED):
            handed = Watched(calls)
            told = answers(handed)
            self.assertEqual(list(handed), calls)
            self.assertEqual(told, answers(list(calls)))

    def test_twice_the_same_list_answers_the_same(self):
        self.assertEqual(answers(MIXED), answers(MIXED))
        first = answers(ASKED)
        answers(MIXED + ASKED)
        self.assertEqual(answers(ASKED), first)
        full = [number for k in range(127) for number in add(0, k)]
        full += [number for k in range(64) for number in rule("*")]
        full += [number for k in range(16) for number in mark(0, k, 1)]
        self.assertEqual(answers(full), answers(full))
        self.assertEqual(answers(add(0) + rule("*") + mark(0, 16, 1)), [2, 1, 0, 2, 1, 0, 2, 0, 0])

    def test_rules_and_nodes_of_another_list_are_not_there(self):
        answers(add(0, 1) + rule("*", 5, 6))
        self.assertEqual(split(answers(value(0, 5) + matches(1, 0) + select("*") + weight(1) + rivals(0, 5))),
                         [(0, []), (-1, []), (1, [0]), (-1, []), (0, [])])

    def test_what_is_given_back_is_the_callers_own(self):
        first = answers([1, 0])
        first.append(5)
        self.assertEqual(answers([1, 0]), [2, 0, 0])

    def test_bytes_are_written_one_number_each(self):
        self.assertEqual(bytes_of("1 \xff"), [49, 32, 255])


if __name__ == "__main__":
    unittest.main()
