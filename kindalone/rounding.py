"""Terms with more rounds."""

from kindalone.terms import MOST_TURNS, places_of


def more_rounds(term, by):
    """The term with each rounds' turns more by so many, to thirty at most."""
    parts = list(term)
    if term[0] == "rounds":
        parts[1] = min(term[1] + by, MOST_TURNS)
    for at in places_of(term):
        parts[at] = more_rounds(parts[at], by)
    return tuple(parts)
