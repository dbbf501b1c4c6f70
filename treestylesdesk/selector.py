"""A selector that can be asked which nodes match it, and with what weight."""

from treestylesdesk.kinds import is_of_kind, weight_of_chain
from treestylesdesk.reader import read_selector

MOST_BYTES = 256


class TextTooLong(Exception):
    """The text has more bytes than a selector may have."""


class Selector:
    """The kinds of all chains, one behind another: each kind is a bit, that of the first one is 1.

    Of each node one number is kept, with the bits of the kinds up to which it matches their chains.
    So a link is a move by one bit for all chains at once, and no way through the tree is tried twice.
    """

    def __init__(self, chains):
        self.kinds = []
        # The kinds that stand behind each link; behind none stand those that begin a chain.
        self.behind = {"": 0, " ": 0, ">": 0, "+": 0, "~": 0}
        ends = {}
        for chain in chains:
            for link, kind in chain:
                self.behind[link] = self.behind[link] | (1 << len(self.kinds))
                self.kinds.append(kind)
            weight = weight_of_chain(chain)
            ends[weight] = ends.get(weight, 0) | (1 << (len(self.kinds) - 1))
        # The greatest weight stands first, so that the first end that is met says the weight at a node.
        self.ends = sorted(ends.items(), reverse=True)
        # Looks come again and again, at other nodes and after other calls.
        self.kinds_by_look = {}
        # What was found last, and in which rows: it holds for as long as the rows are the same.
        self.rows = []
        self.found = {}

    def greatest_weight(self):
        """The greatest weight of the chains."""
        return self.ends[0][0]

    def weights(self, rows):
        """The weight at each node that matches, by the node's number, in the order of rows (those of Tree.in_order)."""
        if rows != self.rows:
            self.found = self.search(rows)
            self.rows = rows
        return self.found

    def search(self, rows):
        """What weights tells: rows has each node behind its parent and behind the child ahead of it."""
        reached = {None: 0}
        above = {None: 0}
        earlier = {None: 0}
        found = {}
        for number, parent, ahead, look in rows:
            above[number] = above[parent] | reached[parent]
            earlier[number] = earlier[ahead] | reached[ahead]
            allowed = self.allowed(above[number], reached[parent], reached[ahead], earlier[number])
            reached[number] = allowed & self.kinds_of_look(look)
            weight = self.weight_where(reached[number])
            if weight is not None:
                found[number] = weight
        return found

    def allowed(self, above, parent, ahead, earlier):
        """The kinds that the links allow at a node, by what the nodes that they lead from have reached."""
        behind = self.behind
        by_tree = ((above << 1) & behind[" "]) | ((parent << 1) & behind[">"])
        by_row = ((ahead << 1) & behind["+"]) | ((earlier << 1) & behind["~"])
        return behind[""] | by_tree | by_row

    def kinds_of_look(self, look):
        """The kinds that a node with this look is of."""
        if look not in self.kinds_by_look:
            bits = 0
            for place, kind in enumerate(self.kinds):
                if is_of_kind(kind, look):
                    bits = bits | (1 << place)
            self.kinds_by_look[look] = bits
        return self.kinds_by_look[look]

    def weight_where(self, reached):
        """The greatest weight of the chains whose ends are reached; None if none is."""
        for weight, bits in self.ends:
            if reached & bits != 0:
                return weight
        return None


def selector_of(text):
    """The selector whose bytes are text; TextTooLong or SelectorFault if it is none."""
    if len(text) > MOST_BYTES:
        raise TextTooLong()
    return Selector(read_selector(text))
