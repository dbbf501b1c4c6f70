"""Writes calls as the desk takes them, and splits what it answers. Used by the tests alone."""

from treestylesdesk.desk import answers

GREATEST = 4294967295
# The least property that is handed down.
DOWN = 2147483648


def new(tag):
    return [1, tag]


def add(parent, tag=0):
    return [2, parent, tag]


def drop(node):
    return [3, node]


def mark(node, class_number, on):
    return [4, node, class_number, on]


def rule(text, property_number=0, value=0, strong=0):
    data = bytes_of(text)
    return [5, property_number, value, strong, len(data)] + data


def unrule(number):
    return [6, number]


def value(node, property_number=0):
    return [7, node, property_number]


def matches(number, node):
    return [8, number, node]


def select(text):
    data = bytes_of(text)
    return [9, len(data)] + data


def weight(number):
    return [10, number]


def rivals(node, property_number=0):
    return [11, node, property_number]


def bytes_of(text):
    return list(text.encode("latin-1"))


def split(told):
    """Each call's answer as (number, row), with all its counts looked at."""
    pairs = []
    place = 0
    while place < len(told):
        size = told[place]
        number = told[place + 1]
        length = told[place + 2]
        row = told[place + 3:place + 1 + size]
        assert size == length + 2 and len(row) == length, told
        pairs.append((number, row))
        place += 1 + size
    return pairs


def ask(*calls):
    """The (number, row) of each call, on one new document."""
    return split(answers([number for call in calls for number in call]))


def numbers(*calls):
    """The number of each call; every row must be empty."""
    pairs = ask(*calls)
    assert all(row == [] for number, row in pairs), pairs
    return [number for number, row in pairs]


def last(*calls):
    """The (number, row) of the last call."""
    return ask(*calls)[-1]


def nodes_of(*calls):
    """The nodes that the last call, a select, tells; their count is looked at."""
    number, row = last(*calls)
    assert number == len(row), (number, row)
    return row


def rivals_of(*calls):
    """The (rule, tests, tags) that the last call, a rivals, tells; their count is looked at."""
    number, row = last(*calls)
    assert len(row) == 3 * number, (number, row)
    return [tuple(row[k:k + 3]) for k in range(0, len(row), 3)]
