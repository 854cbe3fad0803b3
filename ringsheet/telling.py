"""The text that says what a cell has, with no bracket that can be left out."""

from ringsheet.formulas import Formula
from ringsheet.operations import ADDITION, COMPARISON, FACTOR, spelling_of, tightness_of
from ringsheet.references import told_reference
from ringsheet.signs import CLOSING, COLON, COMMA, EQUALS, MINUS, OPENING, spelled


def bracketed(part, loosest):
    """The bytes of a part, a pair of its tightness and its bytes; in brackets if it's looser than that."""
    if part[0] < loosest:
        return [OPENING] + part[1] + [CLOSING]
    return part[1]


def told_sign(sign, left, right):
    tightness = tightness_of(sign)
    # Signs of one tightness go from the left, so the same one on the right needs brackets;
    # comparisons don't go on at all, so both their sides are sums.
    on_left = max(tightness, ADDITION)
    on_right = tightness + 1
    return (tightness, bracketed(left, on_left) + spelling_of(sign) + bracketed(right, on_right))


def told_function(name, parts):
    told = spelled(name) + [OPENING]
    for place, part in enumerate(parts):
        if place > 0:
            told = told + [COMMA]
        told = told + part[1]
    return (FACTOR, told + [CLOSING])


def told_leaf(item):
    if item[0] == "number":
        return (FACTOR, spelled(str(item[1])))
    if item[0] == "reference":
        return (FACTOR, told_reference(item[1]))
    return (COMPARISON, told_reference(item[1]) + [COLON] + told_reference(item[2]))


def told_formula(formula):
    stack = []
    for item in formula.code:
        if item[0] == "sign":
            right = stack.pop()
            left = stack.pop()
            stack.append(told_sign(item[1], left, right))
        elif item[0] == "negation":
            stack.append((FACTOR, [MINUS] + bracketed(stack.pop(), FACTOR)))
        elif item[0] == "function":
            start = len(stack) - item[2]
            parts = stack[start:]
            stack = stack[:start] + [told_function(item[1], parts)]
        else:
            stack.append(told_leaf(item))
    return [EQUALS] + stack[0][1]


def told_content(content):
    if content is None:
        return []
    if isinstance(content, Formula):
        return told_formula(content)
    return spelled(str(content))
