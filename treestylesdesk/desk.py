"""The desk: takes a list of calls on one new document, and answers them."""

from treestylesdesk.asks import ask_matches, ask_rivals, ask_select, ask_value, ask_weight
from treestylesdesk.sheet import Sheet
from treestylesdesk.tree import Tree

NEW = 1
ADD = 2
DROP = 3
MARK = 4
RULE = 5
UNRULE = 6
VALUE = 7
MATCHES = 8
SELECT = 9
WEIGHT = 10

# How many whole numbers each call has, ahead of the text that rule and select have too.
NUMBERS_OF_CALL = {1: 1, 2: 2, 3: 1, 4: 3, 5: 3, 6: 1, 7: 2, 8: 2, 9: 0, 10: 1, 11: 2}


class Document:
    """A tree and the sheet for it; at first the root alone, with tag 0, and no rules."""

    def __init__(self):
        self.tree = Tree(0)
        self.sheet = Sheet()

    def new(self, tag):
        """Begins again, with the root alone and no rules."""
        self.tree = Tree(tag)
        self.sheet = Sheet()
        return [0]


def answer_change(document, call, numbers, text):
    """What one of the calls new to unrule answers."""
    if call == NEW:
        return document.new(numbers[0])
    if call == ADD:
        return document.tree.add(numbers[0], numbers[1])
    if call == DROP:
        return document.tree.drop(numbers[0])
    if call == MARK:
        return document.tree.mark(numbers[0], numbers[1], numbers[2])
    if call == RULE:
        return document.sheet.rule(numbers[0], numbers[1], numbers[2], text)
    return document.sheet.unrule(numbers[0])


def answer_question(document, call, numbers, text):
    """What one of the calls value to rivals answers."""
    if call == VALUE:
        return ask_value(document.tree, document.sheet, numbers[0], numbers[1])
    if call == MATCHES:
        return ask_matches(document.tree, document.sheet, numbers[0], numbers[1])
    if call == SELECT:
        return ask_select(document.tree, text)
    if call == WEIGHT:
        return ask_weight(document.sheet, numbers[0])
    return ask_rivals(document.tree, document.sheet, numbers[0], numbers[1])


def answer_call(document, call, numbers, text):
    """What one call answers: its number, then its row."""
    if call <= UNRULE:
        return answer_change(document, call, numbers, text)
    return answer_question(document, call, numbers, text)


def written(answer):
    """An answer as it is given back: how many numbers follow, the number, the row's length, the row."""
    return [len(answer) + 1, answer[0], len(answer) - 1] + answer[1:]


def answers(calls):
    """What all the calls in the list answer, one behind another."""
    document = Document()
    told = []
    place = 0
    while place < len(calls):
        call = calls[place]
        begin = place + 1
        place = begin + NUMBERS_OF_CALL[call]
        numbers = calls[begin:place]
        text = []
        if call == RULE or call == SELECT:
            begin = place + 1
            place = begin + calls[begin - 1]
            text = calls[begin:place]
        told.extend(written(answer_call(document, call, numbers, text)))
    return told
