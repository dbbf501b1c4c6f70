"""Which nodes are of a kind, by their looks, and what a chain of kinds weighs.

A node's look is all that a kind can ask of it: (tag, its classes, which of "first", "last", "empty" it is).
"""


def holds(test, look):
    """Whether a test, as the reader gives it, holds for a node with this look."""
    name = test[0]
    if name == "class":
        return test[1] in look[1]
    if name == "not":
        return not is_of_kind(test[1], look)
    return name in look[2]


def is_of_kind(kind, look):
    """Whether a node with this look is of the kind; an inner kind has no exception, so this goes one deep."""
    if kind.tag is not None and kind.tag != look[0]:
        return False
    for test in kind.tests:
        if not holds(test, look):
            return False
    return True


def with_inner_kinds(kind):
    """The kind and those within its exceptions."""
    return [kind] + [what for name, what in kind.tests if name == "not"]


def weight_of_chain(chain):
    """How many tests stand in the chain's kinds, and how many tags; an exception is none itself."""
    tests = 0
    tags = 0
    for link, outer in chain:
        for kind in with_inner_kinds(outer):
            tests += len([name for name, what in kind.tests if name != "not"])
            if kind.tag is not None:
                tags += 1
    return (tests, tags)
