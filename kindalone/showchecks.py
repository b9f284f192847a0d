"""Papers of functions shown, checked."""

from kindalone.errors import TooMany, TooMuch
from kindalone.plain import is_same
from kindalone.showing import shown


def paper_holds(term, looked, setting, bound, thing):
    """Whether thing, of anything, is the paper of a function that holds at all cases."""
    try:
        told = shown(term, looked, setting, bound)
    except (TooMany, TooMuch):
        return False
    return is_same(told, ("holds", thing))
