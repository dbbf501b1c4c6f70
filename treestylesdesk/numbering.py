"""The numbers that nodes and rules get."""


def least_free(taken, first):
    """The least number from first on that is no key of taken."""
    number = first
    while number in taken:
        number += 1
    return number
