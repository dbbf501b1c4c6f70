"""The document's words taken as they stand, slowly, and apart from the program. Used by the tests alone."""

import re

KIND_PARTS = re.compile(r"\.\d+|:first|:last|:empty|:not\([^)]*\)")


class Words:
    def __init__(self):
        self.new(0)

    def answer(self, call):
        """The (number, row) of a call, which is its name and what it is handed. Every text must be a selector."""
        told = getattr(self, call[0])(*call[1:])
        return (told[0], list(told[1:]))

    def new(self, tag):
        # parent, tag, classes of each node; the rows of children apart.
        self.parent = {0: None}
        self.tag = {0: tag}
        self.classes = {0: set()}
        self.children = {0: []}
        # (number, text, property, value, strong), in the order in which they came.
        self.rules = []
        return [0]

    def add(self, parent, tag):
        if parent not in self.tag:
            return [-1]
        if len(self.tag) >= 128:
            return [-2]
        node = min(set(range(129)) - set(self.tag))
        self.parent[node], self.tag[node], self.classes[node], self.children[node] = parent, tag, set(), []
        self.children[parent].append(node)
        return [node]

    def drop(self, node):
        if node not in self.tag:
            return [-1]
        if node == 0 or self.children[node]:
            return [-2]
        self.children[self.parent[node]].remove(node)
        for held in (self.parent, self.tag, self.classes, self.children):
            del held[node]
        return [0]

    def mark(self, node, class_number, on):
        if node not in self.tag:
            return [-1]
        if on and len(self.classes[node] | {class_number}) > 16:
            return [-2]
        if on:
            self.classes[node].add(class_number)
        else:
            self.classes[node].discard(class_number)
        return [0]

    def rule(self, text, property_number, value, strong):
        if len(text) > 256:
            return [-2]
        if len(self.rules) >= 64:
            return [-3]
        number = min(set(range(1, 66)) - {rule[0] for rule in self.rules})
        self.rules.append((number, text, property_number, value, strong))
        return [number]

    def unrule(self, number):
        left = [rule for rule in self.rules if rule[0] != number]
        if len(left) == len(self.rules):
            return [-1]
        self.rules = left
        return [0]

    def beside(self, node):
        return [0] if node == 0 else self.children[self.parent[node]]

    def holds(self, node, test):
        if test == ":first":
            return self.beside(node)[0] == node
        if test == ":last":
            return self.beside(node)[-1] == node
        if test == ":empty":
            return not self.children[node]
        if test.startswith(":not("):
            return not self.of_kind(node, test[5:-1])
        return int(test[1:]) in self.classes[node]

    def of_kind(self, node, kind):
        head = re.match(r"\d*", kind)[0]
        if head and self.tag[node] != int(head):
            return False
        return all(self.holds(node, test) for test in KIND_PARTS.findall(kind))

    def led_from(self, node, link):
        """The nodes that the link allows ahead of this one."""
        if link in " >":
            above = []
            while self.parent[node] is not None:
                node = self.parent[node]
                above.append(node)
            return above[:1] if link == ">" else above
        row = self.beside(node)
        ahead = row[:row.index(node)]
        return ahead[-1:] if link == "+" else ahead

    def in_chain(self, node, parts):
        """parts: kind, link, kind, link, .. kind."""
        if not self.of_kind(node, parts[-1]):
            return False
        if len(parts) == 1:
            return True
        return any(self.in_chain(other, parts[:-2]) for other in self.led_from(node, parts[-2]))

    def weights(self, text, node=None):
        """The weights of the chains, or of those that match the node."""
        weights = []
        for chain in text.split(","):
            if node is None or self.in_chain(node, re.split("([ >+~])", chain)):
                tests = len(re.findall(r"\.|:(?!not)", chain))
                tags = len(re.findall(r"(?<![.\d])\d+", chain))
                weights.append((tests, tags))
        return weights

    def ranked(self, node, property_number):
        rows = []
        for came, (number, text, held, value, strong) in enumerate(self.rules):
            if held == property_number and self.weights(text, node):
                rows.append((strong != 0, max(self.weights(text, node)), came, number, value))
        return sorted(rows, reverse=True)

    def value(self, node, property_number):
        if node not in self.tag:
            return [-1]
        rows = self.ranked(node, property_number)
        if rows:
            return [rows[0][3], rows[0][4]]
        if property_number >= 2 ** 31 and node != 0:
            return self.value(self.parent[node], property_number)
        return [0]

    def text_of(self, number):
        found = [rule[1] for rule in self.rules if rule[0] == number]
        return found[0] if found else None

    def matches(self, number, node):
        text = self.text_of(number)
        if text is None or node not in self.tag:
            return [-1]
        return [1 if self.weights(text, node) else 0]

    def in_order(self, node=0):
        return [node] + [below for child in self.children[node] for below in self.in_order(child)]

    def select(self, text):
        nodes = [node for node in self.in_order() if self.weights(text, node)]
        return [len(nodes)] + nodes

    def weight(self, number):
        text = self.text_of(number)
        return [-1] if text is None else [0] + list(max(self.weights(text)))

    def rivals(self, node, property_number):
        if node not in self.tag:
            return [-1]
        rows = self.ranked(node, property_number)
        return [len(rows)] + [held for row in rows for held in (row[3], row[1][0], row[1][1])]
