"""The calls that ask and change nothing. Each answers a list: its number, then its row."""

from treestylesdesk.reader import SelectorFault
from treestylesdesk.selector import TextTooLong, selector_of

FIRST_HANDED_DOWN = 2147483648


def rules_for(tree, sheet, property_number):
    """The rules for a property in the order in which they came: (number, rule, its weights at the nodes)."""
    rows = tree.in_order()
    return [(number, rule, rule.selector.weights(rows)) for number, rule in sheet.rules.items()
            if rule.property_number == property_number]


def rivals_at(rules, node):
    """Those of the rules that match the node: (strong, weight, how late it came, number), the one that counts first."""
    rivals = []
    for came, entry in enumerate(rules):
        weights = entry[2]
        if node in weights:
            rivals.append((entry[1].strong, weights[node], came, entry[0]))
    return sorted(rivals, reverse=True)


def ask_value(tree, sheet, node, property_number):
    """The rule that counts, then its value; 0 if none does."""
    if node not in tree.nodes:
        return [-1]
    rules = rules_for(tree, sheet, property_number)
    rivals = rivals_at(rules, node)
    if property_number >= FIRST_HANDED_DOWN:
        above = tree.nodes[node].parent
        while len(rivals) == 0 and above is not None:
            rivals = rivals_at(rules, above)
            above = tree.nodes[above].parent
    if len(rivals) == 0:
        return [0]
    number = rivals[0][3]
    return [number, sheet.rules[number].value]


def ask_matches(tree, sheet, number, node):
    """1 if the node matches the rule's selector, else 0."""
    if number not in sheet.rules or node not in tree.nodes:
        return [-1]
    if node in sheet.rules[number].selector.weights(tree.in_order()):
        return [1]
    return [0]


def ask_select(tree, text):
    """How many nodes match the selector, then their numbers in the document's order."""
    try:
        selector = selector_of(text)
    except TextTooLong:
        return [-2]
    except SelectorFault as e:
        return [-1, e.place]
    nodes = list(selector.weights(tree.in_order()))
    return [len(nodes)] + nodes


def ask_weight(sheet, number):
    """0, then the greatest weight of the rule's chains."""
    if number not in sheet.rules:
        return [-1]
    return [0] + list(sheet.rules[number].selector.greatest_weight())


def ask_rivals(tree, sheet, node, property_number):
    """How many rules for the property match this node, then of each its number and its weight at the node."""
    if node not in tree.nodes:
        return [-1]
    rivals = rivals_at(rules_for(tree, sheet, property_number), node)
    row = []
    for strong, weight, came, number in rivals:
        row.extend([number, weight[0], weight[1]])
    return [len(rivals)] + row
