"""Reads the text of a selector, or finds the place of its fault."""

GREATEST_NUMBER = 4294967295
LINKS = (" ", ">", "+", "~")
# Their first letters differ, so the byte behind ":" says which one is meant.
WORDS = ("first", "last", "empty")


class SelectorFault(Exception):
    """The text is no selector; place is the place of its fault."""

    def __init__(self, place):
        self.place = place


class Kind:
    """What is asked of one node.

    tag is None where none is named. tests are pairs, in the order of the text:
    ("class", number), ("first", None), ("last", None), ("empty", None), ("not", inner kind).
    """

    def __init__(self, tag, tests):
        self.tag = tag
        self.tests = tests


class Reader:
    """Goes through a text byte by byte.

    It steps over a byte only where the text up to and with that byte begins well:
    so wherever it cannot go on, its place is the place of the fault.
    """

    def __init__(self, text):
        self.text = text
        self.place = 0

    def sees(self, sign):
        """Whether the next byte is this sign."""
        return self.place < len(self.text) and self.text[self.place] == ord(sign)

    def takes(self, sign):
        """Steps over this sign, if it is next: whether it was."""
        if not self.sees(sign):
            return False
        self.place += 1
        return True

    def needs(self, signs):
        """Steps over these signs, which must be next."""
        for sign in signs:
            if not self.takes(sign):
                raise SelectorFault(self.place)

    def sees_digit(self):
        """Whether the next byte is a digit."""
        if self.place == len(self.text):
            return False
        return ord("0") <= self.text[self.place] <= ord("9")

    def takes_digit(self):
        """Steps over a digit, which is next: what it stands for."""
        digit = self.text[self.place] - ord("0")
        self.place += 1
        return digit

    def may_grow(self, number):
        """Whether the digit that is next may stand behind the digits of number."""
        digit = self.text[self.place] - ord("0")
        return number != 0 and number * 10 + digit <= GREATEST_NUMBER

    def read_number(self):
        """A number, with all the digits that are next."""
        if not self.sees_digit():
            raise SelectorFault(self.place)
        number = self.takes_digit()
        while self.sees_digit():
            if not self.may_grow(number):
                raise SelectorFault(self.place)
            number = number * 10 + self.takes_digit()
        return number

    def read_word(self, inner):
        """A test from behind its ":" on; within an inner kind there is no exception."""
        for word in WORDS:
            if self.sees(word[0]):
                self.needs(word)
                return (word, None)
        if inner:
            raise SelectorFault(self.place)
        self.needs("not(")
        kind = self.read_kind(True)
        self.needs(")")
        return ("not", kind)

    def read_tests(self, inner):
        """All the tests that are next, in order; there may be none."""
        tests = []
        while self.sees(".") or self.sees(":"):
            if self.takes("."):
                tests.append(("class", self.read_number()))
            else:
                self.needs(":")
                tests.append(self.read_word(inner))
        return tests

    def read_kind(self, inner):
        """A kind, or an inner kind: so this calls itself once at most."""
        tag = None
        start = self.place
        if self.sees_digit():
            tag = self.read_number()
        else:
            self.takes("*")
        tests = self.read_tests(inner)
        if self.place == start:
            raise SelectorFault(self.place)
        return Kind(tag, tests)

    def read_link(self):
        """The link that is next, or an empty text if none is."""
        for link in LINKS:
            if self.takes(link):
                return link
        return ""

    def read_chain(self):
        """A chain: pairs of the link ahead of a kind (empty ahead of the first) and the kind."""
        chain = [("", self.read_kind(False))]
        link = self.read_link()
        while link != "":
            chain.append((link, self.read_kind(False)))
            link = self.read_link()
        return chain


def read_selector(text):
    """The chains of the selector whose bytes are text; SelectorFault if it is none."""
    reader = Reader(text)
    chains = [reader.read_chain()]
    while reader.takes(","):
        chains.append(reader.read_chain())
    if reader.place < len(text):
        raise SelectorFault(reader.place)
    return chains
