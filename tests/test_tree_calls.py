"""Points 1 to 4: new, add, drop, mark."""

import unittest

from calls import GREATEST, add, ask, drop, mark, new, numbers, rule, unrule
from treestylesdesk.desk import Document
from treestylesdesk.tree import Tree


def seen(tree):
    """All that a tree holds, for comparing."""
    return {number: (node.tag, node.parent, list(node.children), sorted(node.classes))
            for number, node in tree.nodes.items()}


def marks(node, class_numbers, on=1):
    return [mark(node, class_number, on) for class_number in class_numbers]


class NewCall(unittest.TestCase):
    def test_a_document_at_first(self):
        document = Document()
        self.assertEqual(seen(document.tree), {0: (0, None, [], [])})
        self.assertEqual(document.sheet.rules, {})
        self.assertEqual(numbers(drop(0), drop(1), unrule(1), add(0), rule("*")), [-2, -1, -1, 1, 1])

    def test_new_takes_all_nodes_away(self):
        self.assertEqual(numbers(add(0), add(1), new(5), drop(1), drop(2), add(1), add(0)),
                         [1, 2, 0, -1, -1, -1, 1])

    def test_new_takes_all_classes_away(self):
        told = numbers(*marks(0, range(16)), mark(0, 16, 1), new(5), *marks(0, range(16, 32)), mark(0, 0, 1))
        self.assertEqual(told, [0] * 16 + [-2, 0] + [0] * 16 + [-2])

    def test_new_takes_all_rules_away(self):
        self.assertEqual(numbers(rule("*"), rule("*"), new(5), unrule(1), unrule(2), rule("*")),
                         [1, 2, 0, -1, -1, 1])

    def test_the_root_has_the_new_tag(self):
        for tag in (0, 1, GREATEST):
            document = Document()
            document.tree.add(0, 4)
            document.tree.mark(0, 4, 1)
            document.sheet.rule(0, 0, 0, [42])
            self.assertEqual(document.new(tag), [0])
            self.assertEqual(seen(document.tree), {0: (tag, None, [], [])})
            self.assertEqual(document.sheet.rules, {})


class AddCall(unittest.TestCase):
    def test_numbers_go_up_from_1(self):
        self.assertEqual(numbers(add(0), add(0), add(1), add(3)), [1, 2, 3, 4])

    def test_a_new_node_is_the_last_child(self):
        tree = Tree(6)
        for parent, tag in ((0, 10), (0, 11), (1, 12), (0, 13)):
            tree.add(parent, tag)
        self.assertEqual(seen(tree), {
            0: (6, None, [1, 2, 4], []), 1: (10, 0, [3], []), 2: (11, 0, [], []),
            3: (12, 1, [], []), 4: (13, 0, [], [])})

    def test_the_last_child_also_where_its_number_is_less(self):
        tree = Tree(0)
        for tag in (1, 2, 3):
            tree.add(0, tag)
        tree.drop(1)
        self.assertEqual(tree.add(0, 4), [1])
        self.assertEqual(tree.nodes[0].children, [2, 3, 1])

    def test_a_node_that_comes_again_has_nothing_of_the_old_one(self):
        tree = Tree(0)
        tree.add(0, 1)
        tree.mark(1, 8, 1)
        tree.drop(1)
        tree.add(0, 2)
        self.assertEqual(seen(tree), {0: (0, None, [1], []), 1: (2, 0, [], [])})

    def test_the_least_free_number_after_drops(self):
        told = numbers(*[add(0)] * 5, drop(4), drop(2), add(0), add(0), add(0))
        self.assertEqual(told, [1, 2, 3, 4, 5, 0, 0, 2, 4, 6])

    def test_no_such_parent(self):
        self.assertEqual(numbers(add(1), add(0), add(2), add(GREATEST), add(0)), [-1, 1, -1, -1, 2])
        self.assertEqual(numbers(add(0), drop(1), add(1)), [1, 0, -1])

    def test_128_nodes_are_the_most(self):
        told = numbers(*[add(0)] * 128, drop(64), add(5), add(0))
        self.assertEqual(told, list(range(1, 128)) + [-2, 0, 64, -2])

    def test_128_nodes_below_one_another(self):
        told = numbers(*[add(k) for k in range(128)], drop(126), drop(127), drop(126), add(125))
        self.assertEqual(told, list(range(1, 128)) + [-2, -2, 0, 0, 126])

    def test_no_such_parent_counts_before_128(self):
        self.assertEqual(numbers(*[add(0)] * 127, add(128), add(127))[-2:], [-1, -2])

    def test_refused_nothing_is_changed(self):
        tree = Tree(0)
        for k in range(127):
            tree.add(k // 2, k)
        before = seen(tree)
        self.assertEqual(tree.add(5, 1), [-2])
        self.assertEqual(tree.add(128, 1), [-1])
        self.assertEqual(seen(tree), before)


class DropCall(unittest.TestCase):
    def test_it_is_gone(self):
        self.assertEqual(numbers(add(0), drop(1), drop(1), add(1), mark(1, 1, 1)), [1, 0, -1, -1, -1])

    def test_its_parent_has_it_no_more(self):
        tree = Tree(0)
        for tag in (1, 2, 3):
            tree.add(0, tag)
        self.assertEqual(tree.drop(2), [0])
        self.assertEqual(seen(tree), {0: (0, None, [1, 3], []), 1: (1, 0, [], []), 3: (3, 0, [], [])})

    def test_it_is_no_node(self):
        self.assertEqual(numbers(drop(1), drop(128), drop(GREATEST)), [-1, -1, -1])

    def test_the_root_stays(self):
        self.assertEqual(numbers(drop(0), add(0), drop(0), drop(1), drop(0), add(0)), [-2, 1, -2, 0, -2, 1])

    def test_a_node_with_children_stays(self):
        self.assertEqual(numbers(add(0), add(1), drop(1), add(1), drop(2), drop(1), drop(3), drop(1)),
                         [1, 2, -2, 3, 0, -2, 0, 0])

    def test_refused_nothing_is_changed(self):
        tree = Tree(7)
        tree.add(0, 1)
        tree.add(1, 2)
        tree.mark(1, 3, 1)
        before = seen(tree)
        self.assertEqual([tree.drop(0), tree.drop(1), tree.drop(3)], [[-2], [-2], [-1]])
        self.assertEqual(seen(tree), before)


class MarkCall(unittest.TestCase):
    def test_on_and_off(self):
        tree = Tree(0)
        tree.add(0, 1)
        self.assertEqual([tree.mark(1, 5, 1), tree.mark(1, 6, 1), tree.mark(0, 7, 1)], [[0], [0], [0]])
        self.assertEqual(seen(tree), {0: (0, None, [1], [7]), 1: (1, 0, [], [5, 6])})
        self.assertEqual([tree.mark(1, 5, 0), tree.mark(0, 7, 0)], [[0], [0]])
        self.assertEqual(seen(tree), {0: (0, None, [1], []), 1: (1, 0, [], [6])})

    def test_on_is_all_but_0(self):
        for on in (1, 2, GREATEST):
            tree = Tree(0)
            tree.mark(0, GREATEST, on)
            self.assertEqual(sorted(tree.nodes[0].classes), [GREATEST])

    def test_off_what_is_not_on(self):
        self.assertEqual(numbers(mark(0, 5, 0), *marks(0, range(16)), mark(0, 99, 0), mark(0, 99, 1)),
                         [0] * 18 + [-2])

    def test_each_class_is_on_once(self):
        told = numbers(*marks(0, [5] * 20), mark(0, 5, 0), *marks(0, range(10, 26)), mark(0, 5, 1))
        self.assertEqual(told, [0] * 37 + [-2])

    def test_it_is_no_node(self):
        self.assertEqual(numbers(mark(1, 5, 1), mark(1, 5, 0), mark(GREATEST, 5, 1)), [-1, -1, -1])

    def test_16_classes_are_the_most(self):
        told = numbers(*marks(0, range(16)), mark(0, 16, 1), mark(0, 3, 1), mark(0, 3, 7),
                       mark(0, 3, 0), mark(0, 16, 1), mark(0, 3, 1))
        self.assertEqual(told, [0] * 16 + [-2, 0, 0, 0, 0, -2])

    def test_16_classes_are_for_each_node(self):
        told = numbers(add(0), *marks(0, range(16)), *marks(1, range(16)), mark(0, 16, 1), mark(1, 16, 1))
        self.assertEqual(told, [1] + [0] * 32 + [-2, -2])

    def test_no_node_counts_before_16(self):
        self.assertEqual(numbers(*marks(0, range(16)), mark(1, 16, 1), mark(0, 16, 1))[-2:], [-1, -2])

    def test_refused_nothing_is_changed(self):
        tree = Tree(0)
        for class_number in range(16):
            tree.mark(0, class_number, 1)
        before = seen(tree)
        self.assertEqual([tree.mark(0, 16, 1), tree.mark(1, 16, 1), tree.mark(1, 3, 0)], [[-2], [-1], [-1]])
        self.assertEqual(seen(tree), before)

    def test_16_are_told_by_calls_alone(self):
        told = ask(*marks(0, range(16)), mark(0, 16, 1), mark(0, 0, 0), mark(0, 17, 1), mark(0, 18, 1))
        self.assertEqual(told[-4:], [(-2, []), (0, []), (0, []), (-2, [])])


if __name__ == "__main__":
    unittest.main()
