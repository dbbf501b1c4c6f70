"""Lists as long, trees as deep and sheets as full as the document allows, in a short time."""

import signal
import unittest

from calls import DOWN, add, ask, bytes_of, drop, mark, matches, rivals, rule, select, value
from treestylesdesk.desk import answers

# The longest list here takes about a second: the room is for slow machines.
MOST_SECONDS = 20

LINE = [add(k, k + 1) for k in range(127)]
SAME_LINE = [add(k) for k in range(127)]
ROW = [add(0) for k in range(127)]


def too_long(number, frame):
    raise AssertionError("the list of calls takes too long")


def timed(calls):
    """What the calls answer, cut short if it takes too long; they must be a list that the document allows."""
    size = sum(len(call) for call in calls)
    assert len(calls) <= 400 and size <= 30000, (len(calls), size)
    signal.signal(signal.SIGALRM, too_long)
    signal.alarm(MOST_SECONDS)
    try:
        return ask(*calls)
    finally:
        signal.alarm(0)


def chain(link, first, count, end):
    """A chain of kinds "*" with a first and a last kind of its own."""
    return first + (link + "*") * count + link + end


class LongLists(unittest.TestCase):
    def test_chains_with_many_ways_that_all_fail(self):
        for tree, link in ((SAME_LINE, " "), (ROW, "~")):
            text = chain(link, "9", 125, "*")
            self.assertLessEqual(len(text), 256)
            told = timed(tree + [rule(text, 5, 6, 1)] * 64 + [value(127, 5)] * 150)
            self.assertEqual(told[-150:], [(0, [])] * 150)

    def test_chains_with_many_ways_where_few_lead_to_the_end(self):
        self.assertEqual(timed(SAME_LINE + [select(chain(" ", "*", 126, "*"))])[-1], (1, [127]))
        self.assertEqual(timed(SAME_LINE + [select(chain(" ", "*", 60, "*"))])[-1], (67, list(range(61, 128))))
        self.assertEqual(timed(ROW + [select(chain("~", "*", 125, "*"))])[-1], (1, [127]))
        self.assertEqual(timed(ROW + [select(chain("+", ":first", 123, "*"))])[-1], (1, [125]))
        self.assertEqual(timed(SAME_LINE + [select(chain(">", "*", 126, "*"))])[-1], (1, [127]))

    def test_handed_down_127_times(self):
        told = timed(LINE + [rule("0" + ":not(1)" * 36, DOWN, k) for k in range(64)] + [value(127, DOWN)] * 200)
        self.assertEqual(told[-200:], [(64, [63])] * 200)

    def test_64_full_rules_and_a_tree_that_is_changed_each_time(self):
        rules = [rule(chain(" ", "8", 120, "*,.1"), DOWN, k) for k in range(64)]
        changes = [call for k in range(104) for call in (mark(k, 2, 1), value(127, DOWN))]
        told = timed(LINE + rules + changes)
        self.assertEqual(told[-208:], [(0, []), (0, [])] * 104)
        told = timed(LINE + rules + [mark(0, 1, 1)] + [value(127, DOWN), drop(127), add(126, 5)] * 69)
        self.assertEqual(told[-207:], [(64, [63]), (0, []), (127, [])] * 69)

    def test_many_chains(self):
        text = ",".join(["9"] * 127 + ["*"])
        changes = [call for k in range(100) for call in (rivals(127, 5), mark(k, 1, 1))]
        told = timed(SAME_LINE + [rule(text, 5, k) for k in range(64)] + changes)
        wanted = [number for k in range(64, 0, -1) for number in (k, 0, 0)]
        self.assertEqual(told[-200:], [(64, wanted), (0, [])] * 100)

    def test_as_many_long_selects_as_the_list_holds(self):
        text = " ".join(["*"] * 120) + ":not(.99:first)"
        told = timed(LINE + [select(text)] * 110)
        self.assertEqual(told[-110:], [(9, list(range(119, 128)))] * 110)

    def test_400_calls_of_each_question(self):
        self.assertEqual(timed([value(0, 5)] * 400), [(0, [])] * 400)
        self.assertEqual(timed([matches(1, 0)] * 400), [(-1, [])] * 400)
        self.assertEqual(timed([select("*")] * 400), [(1, [0])] * 400)
        self.assertEqual(timed([rivals(0, 5)] * 400), [(0, [])] * 400)
        self.assertEqual(answers([10, 1] * 400), [2, -1, 0] * 400)

    def test_128_nodes_are_told_in_order(self):
        self.assertEqual(timed(LINE + [select("*")])[-1], (128, list(range(128))))
        self.assertEqual(timed(ROW + [select("*")])[-1], (128, list(range(128))))
        self.assertEqual(len(bytes_of(chain(" ", "*", 126, "*"))), 255)


if __name__ == "__main__":
    unittest.main()
