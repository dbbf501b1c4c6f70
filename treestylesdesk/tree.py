"""The tree of nodes. Each call answers a list: its number, then its row."""

from treestylesdesk.numbering import least_free

MOST_NODES = 128
MOST_CLASSES = 16
ROOT = 0


class Node:
    """A node; its parent (None above the root) and its children, in order, are numbers."""

    def __init__(self, tag, parent):
        self.tag = tag
        self.parent = parent
        self.children = []
        # A dict of True, as each class is on a node once and their order says nothing.
        self.classes = {}


class Tree:
    """The nodes by their numbers, at first the root alone."""

    def __init__(self, tag):
        self.nodes = {ROOT: Node(tag, None)}

    def add(self, parent, tag):
        """A new last child of parent: its number."""
        if parent not in self.nodes:
            return [-1]
        if len(self.nodes) == MOST_NODES:
            return [-2]
        number = least_free(self.nodes, ROOT)
        self.nodes[number] = Node(tag, parent)
        self.nodes[parent].children.append(number)
        return [number]

    def drop(self, number):
        """Takes away a node that is not the root and has no children."""
        if number not in self.nodes:
            return [-1]
        node = self.nodes[number]
        if number == ROOT or len(node.children) > 0:
            return [-2]
        self.nodes[node.parent].children.remove(number)
        self.nodes.pop(number)
        return [0]

    def mark(self, number, class_number, on):
        """Puts a class on a node, or off it if on is 0."""
        if number not in self.nodes:
            return [-1]
        classes = self.nodes[number].classes
        if on == 0:
            classes.pop(class_number, None)
            return [0]
        # A class that is on already takes no more room, so it is never refused.
        if class_number not in classes and len(classes) == MOST_CLASSES:
            return [-2]
        classes[class_number] = True
        return [0]

    def look(self, number):
        """All that a kind can ask of a node: its tag, its classes, which of "first", "last", "empty" it is."""
        node = self.nodes[number]
        row = [number]
        if node.parent is not None:
            row = self.nodes[node.parent].children
        states = []
        if row[0] == number:
            states.append("first")
        if row[-1] == number:
            states.append("last")
        if len(node.children) == 0:
            states.append("empty")
        return (node.tag, tuple(sorted(node.classes)), tuple(states))

    def in_order(self):
        """The nodes in the document's order, each as (number, parent, the child right ahead of it, look).

        None stands where there is no parent or no child ahead.
        """
        rows = []
        waiting = [(ROOT, None)]
        while len(waiting) > 0:
            pair = waiting.pop()
            number = pair[0]
            node = self.nodes[number]
            rows.append((number, node.parent, pair[1], self.look(number)))
            # The last child is put in first, as what was put in last is taken out first.
            children = list(zip([None] + node.children, node.children))
            for ahead, child in reversed(children):
                waiting.append((child, ahead))
        return rows
