"""The sheet of rules. Each call answers a list: its number, then its row."""

from treestylesdesk.numbering import least_free
from treestylesdesk.reader import SelectorFault
from treestylesdesk.selector import TextTooLong, selector_of

MOST_RULES = 64


class Rule:
    """A rule: nodes that match its selector have this value for this property."""

    def __init__(self, property_number, value, strong, selector):
        self.property_number = property_number
        self.value = value
        self.strong = strong
        self.selector = selector


class Sheet:
    """The rules by their numbers."""

    def __init__(self):
        # The keys stand in the order in which the rules came: the last one is the latest,
        # as a number that is free again is put in anew.
        self.rules = {}

    def rule(self, property_number, value, strong, text):
        """A new rule, the latest: its number."""
        try:
            selector = selector_of(text)
        except TextTooLong:
            return [-2]
        except SelectorFault as e:
            return [-1, e.place]
        if len(self.rules) == MOST_RULES:
            return [-3]
        number = least_free(self.rules, 1)
        self.rules[number] = Rule(property_number, value, strong != 0, selector)
        return [number]

    def unrule(self, number):
        """Takes away a rule."""
        if number not in self.rules:
            return [-1]
        self.rules.pop(number)
        return [0]
