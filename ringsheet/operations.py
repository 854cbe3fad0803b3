"""The signs between two parts of a formula: how they are spelled, how tightly they bind, what they come to.

A worth is a pair: the error, 0 where there is none, and the value, 0 where there is an error.
"""

# How tightly a part of a formula holds together: a looser part needs brackets where a tighter one is asked for.
COMPARISON = 1
ADDITION = 2
PRODUCT = 3
FACTOR = 4

RING = (1, 0)
BY_ZERO = (2, 0)
TOO_FAR = (3, 0)
NOTHING = (0, 0)

LEAST = -9223372036854775808
GREATEST = 9223372036854775807

# The signs of two bytes stand first, for the first sign that fits is taken.
SPELLINGS = {
    "unequal": (60, 62),
    "at most": (60, 61),
    "at least": (62, 61),
    "equal": (61,),
    "below": (60,),
    "above": (62,),
    "plus": (43,),
    "minus": (45,),
    "times": (42,),
    "over": (47,),
    "rest": (37,),
}


def spelling_of(sign):
    return list(SPELLINGS[sign])


def tightness_of(sign):
    if sign in ("times", "over", "rest"):
        return PRODUCT
    if sign in ("plus", "minus"):
        return ADDITION
    return COMPARISON


def sign_at(text, place):
    """The sign that is spelled at the place, or None."""
    for sign in SPELLINGS:
        spelling = spelling_of(sign)
        if text[place:place + len(spelling)] == spelling:
            return sign
    return None


def within_bounds(value):
    if value < LEAST or value > GREATEST:
        return TOO_FAR
    return (0, value)


def cut_quotient(left, right):
    """The quotient cut towards zero, where // would go down."""
    quotient = abs(left) // abs(right)
    return quotient if (left < 0) == (right < 0) else -quotient


def divided(sign, left, right):
    if right == 0:
        return BY_ZERO
    quotient = cut_quotient(left, right)
    if sign == "over":
        return within_bounds(quotient)
    return within_bounds(left - right * quotient)


def holds(sign, left, right):
    if sign == "equal":
        return left == right
    if sign == "unequal":
        return left != right
    if sign == "below":
        return left < right
    if sign == "at most":
        return left <= right
    if sign == "above":
        return left > right
    return left >= right


def joined_values(sign, left, right):
    if sign == "plus":
        return within_bounds(left + right)
    if sign == "minus":
        return within_bounds(left - right)
    if sign == "times":
        return within_bounds(left * right)
    if sign == "over" or sign == "rest":
        return divided(sign, left, right)
    return (0, 1 if holds(sign, left, right) else 0)


def joined(sign, left, right):
    """What the sign makes of two worths: the left one's error is met before the right one's."""
    if left[0] != 0:
        return left
    if right[0] != 0:
        return right
    return joined_values(sign, left[1], right[1])


def negated(worth):
    if worth[0] != 0:
        return worth
    return within_bounds(-worth[1])
