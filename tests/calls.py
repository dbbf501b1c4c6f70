"""Writes calls as the desk takes them, and splits what it answers. Used by the tests alone."""

from treestylesdesk.desk import answers

GREATEST = 4294967295


def new(tag):
    return [1, tag]


def add(parent, tag=0):
    return [2, parent, tag]


def drop(node):
    return [3, node]


def mark(node, class_number, on):
    return [4, node, class_number, on]


def rule(text, property_number=0, value=0, strong=0):
    data = bytes_of(text)
    return [5, property_number, value, strong, len(data)] + data


def unrule(number):
    return [6, number]


def bytes_of(text):
    return list(text.encode("latin-1"))


def split(told):
    """Each call's answer as (number, row), with all its counts looked at."""
    pairs = []
    place = 0
    while place < len(told):
        size = told[place]
        number = told[place + 1]
        length = told[place + 2]
        row = told[place + 3:place + 1 + size]
        assert size == length + 2 and len(row) == length, told
        pairs.append((number, row))
        place += 1 + size
    return pairs


def ask(*calls):
    """The (number, row) of each call, on one new document."""
    return split(answers([number for call in calls for number in call]))


def numbers(*calls):
    """The number of each call; every row must be empty."""
    pairs = ask(*calls)
    assert all(row == [] for number, row in pairs), pairs
    return [number for number, row in pairs]
