"""Straight terms: what puts items on an end, one behind the other, and looks at neither."""

from kindalone.terms import all_parts

# Where in a term's tuple the names stand that it binds.
BINDERS = {
    "fun": (1,),
    "case": (2, 4),
    "fold": (3, 4),
    "built": (3, 4),
    "rounds": (3,),
}


def is_straight(x, y, term):
    """Whether a term is straight by x, which puts on, and y, the end."""
    return x != y and not is_bound(x, term) and not is_bound(y, term) and is_straight_form(x, y, term)


def is_bound(name, term):
    """Whether a name is bound anywhere in a term."""
    return any(part[at] == name for part in all_parts(term) for at in BINDERS.get(part[0], ()))


def is_without(term, names):
    """Whether none of a term's parts is one of these names."""
    return not any(part[0] == "name" and part[1] in names for part in all_parts(term))


def is_straight_form(x, y, term):
    """Whether a term in which neither x nor y is bound is straight."""
    word = term[0]
    if word == "name":
        return term[1] == y
    if word == "call":
        return is_putting(x, y, term[1]) and is_straight_form(x, y, term[2])
    if word in ("if", "case"):
        ways = (term[2], term[3]) if word == "if" else (term[3], term[5])
        return is_without(term[1], (x, y)) and all(is_straight_form(x, y, way) for way in ways)
    return word == "fold" and is_straight_fold(x, y, term)


def is_putting(x, y, term):
    """Whether a term is a call of x with an item that has neither x nor y in it."""
    return term[0] == "call" and term[1] == ("name", x) and is_without(term[2], (x, y))


def is_straight_fold(x, y, term):
    """Whether a fold goes on from a straight term, each turn from what came so far."""
    word, asked, begun, first, second, turn = term
    if not is_without(asked, (x, y)) or not is_straight_form(x, y, begun):
        return False
    return is_without(turn, (y,)) and is_straight(x, second, turn)
