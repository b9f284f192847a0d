"""Wholes: terms with the functions that they use in their stead."""

from kindalone.errors import TooMany
from kindalone.filling import filled_term, names_in
from kindalone.owns import settled_owns
from kindalone.terms import all_parts, places_of, terms_in
from kindalone.unused import Unused

MOST_PARTS = 200
# So many terms stand within one another at most.
MOST_DEEP = 30


def uses_of(term):
    """The functions that a term names, rising."""
    return tuple(sorted({part[1] for part in all_parts(term) if part[0] == "told"}))


def whole_of(term, looked, wholes):
    """The whole of a term, by the wholes of those that it uses; TooMany."""
    parts, deep = measured(term, wholes)
    if parts > MOST_PARTS or deep > MOST_DEEP:
        raise TooMany("a whole of too many parts, or too many within one another")
    return with_owns(with_wholes(term, wholes), looked)


def with_owns(term, looked):
    """The closed term with other own names for those of its builts that have no kind by theirs."""
    return settled_owns(term, {}, looked, Unused([*names_in(term), *looked]))


def measured(term, wholes):
    """How many parts a term has, and how many stand within one another; told ones by their wholes, where these are."""
    if term[0] == "told" and term[1] in wholes:
        return measured(wholes[term[1]], {})
    parts = 1
    deepest = 0
    for inner in terms_in(term):
        more, deep = measured(inner, wholes)
        parts += more
        deepest = max(deepest, deep)
    return parts, deepest + 1


def with_wholes(term, wholes):
    """The term with the whole, filled, of each function that it uses."""
    if term[0] == "told":
        return filled_term(wholes[term[1]], term[2])
    parts = list(term)
    for at in places_of(term):
        parts[at] = with_wholes(parts[at], wholes)
    return tuple(parts)
