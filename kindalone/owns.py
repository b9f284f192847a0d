"""Builts' own names being others, where a term that comes to stand elsewhere would have no kind by them."""

from kindalone.filling import filled
from kindalone.kinds import opens_in
from kindalone.scopes import names_within
from kindalone.terms import places_of


def settled_owns(term, names, looked, unused):
    """The term, where names have these kinds, with unused own names for the builts whose own ones are met."""
    told = term
    if term[0] == "built" and is_met(term, names, looked):
        told = with_own(term, unused.another())
    parts = list(told)
    for at in places_of(told):
        # The kinds of the names that a term binds come from its terms ahead, which are settled already.
        within = names_within(tuple(parts), at, names, looked)
        parts[at] = settled_owns(parts[at], within, looked, unused)
    return tuple(parts)


def is_met(built, names, looked):
    """Whether a built's own name is looked at, or in its items' kind, or in a kind of a name that counts around it."""
    own = built[2]
    if own in looked or own in opens_in(built[1]):
        return True
    return any(own in opens_in(kind) for kind in names.values())


def with_own(built, own):
    """The built with another own name, and what stands for it."""
    word, data, before, x, y, inner = built
    return (word, data, own, x, y, filled(inner, {before: ("open", own)}, {}))
