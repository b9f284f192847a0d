"""Terms, by their form."""

from kindalone.kinds import is_argument, is_data
from kindalone.plain import is_name, is_number, is_rising, is_truth, is_whole

# What stands behind each word of a term.
TERM_FORMS = {
    "name": ("name",),
    "fun": ("name", "argument", "term"),
    "call": ("term", "term"),
    "num": ("number",),
    "plus": ("term", "term"),
    "less": ("term", "term"),
    "truth": ("truth",),
    "if": ("term", "term", "term"),
    "pair": ("term", "term"),
    "first": ("term",),
    "second": ("term",),
    "left": ("term", "data"),
    "right": ("data", "term"),
    "case": ("term", "name", "term", "name", "term"),
    "none": ("data",),
    "more": ("term", "term"),
    "fold": ("term", "term", "name", "name", "term"),
    "built": ("data", "name", "name", "name", "term"),
    "alike": ("term", "term"),
    "fault": ("data",),
    "rounds": ("turns", "term", "name", "term"),
    "told": ("name", "fills"),
}
MOST_TURNS = 30


def is_term(thing):
    """Whether thing, of anything, is a term."""
    waiting = [thing]
    while waiting:
        part = waiting.pop()
        if not has_term_form(part):
            return False
        waiting.extend(terms_in(part))
    return True


def has_term_form(thing):
    """Whether thing has a term's word and the right parts behind it, of which the terms are not looked at."""
    if not isinstance(thing, tuple) or not thing or not isinstance(thing[0], str):
        return False
    word = thing[0]
    if word not in TERM_FORMS or len(thing) != len(TERM_FORMS[word]) + 1:
        return False
    if not all(fits(role, part) for role, part in zip(TERM_FORMS[word], thing[1:])):
        return False
    return word not in ("fold", "built") or thing[3] != thing[4]


def fits(role, part):
    """Whether part, of anything, may stand where this role is asked; a term is looked at by itself."""
    if role == "name":
        return is_name(part)
    if role == "number":
        return is_number(part)
    if role == "truth":
        return is_truth(part)
    if role == "turns":
        return is_turns(part)
    if role == "data":
        return is_data(part)
    if role == "argument":
        return is_argument(part)
    return role == "term" or is_fills(part)


def is_turns(thing):
    """Whether thing is how many turns rounds may take."""
    return is_whole(thing) and 1 <= thing <= MOST_TURNS


def is_fills(thing):
    """Whether thing, of anything, is a tuple of names, rising, each with a data kind."""
    if not isinstance(thing, tuple) or not all(is_fill(fill) for fill in thing):
        return False
    return is_rising([name for name, kind in thing])


def is_fill(thing):
    """Whether thing, of anything, is a name with a data kind."""
    return isinstance(thing, tuple) and len(thing) == 2 and is_name(thing[0]) and is_data(thing[1])


def terms_in(term):
    """The terms that stand directly in a term, in their order."""
    return [part for role, part in zip(TERM_FORMS[term[0]], term[1:]) if role == "term"]


def places_of(term):
    """Where in the tuple of a term its terms stand, in their order."""
    return [at for at, role in enumerate(TERM_FORMS[term[0]], 1) if role == "term"]


def all_parts(term):
    """The parts of a term, in any order."""
    parts = []
    waiting = [term]
    while waiting:
        part = waiting.pop()
        parts.append(part)
        waiting.extend(terms_in(part))
    return parts


def kinds_here(term):
    """The kinds that a term itself has, those of its terms not among them."""
    kinds = []
    for role, part in zip(TERM_FORMS[term[0]], term[1:]):
        if role in ("data", "argument"):
            kinds.append(part)
        if role == "fills":
            kinds.extend([kind for name, kind in part])
    return kinds
