"""Papers of functions that are alike, checked."""

from kindalone.errors import TooMany, TooMuch, Unbounded
from kindalone.outcomes import same_but_steps, without_steps
from kindalone.parting import both_at_tries
from kindalone.plain import is_same


def alike_holds(one, other, looked, bound, thing):
    """Whether thing, of anything, is a paper of two functions that are alike at all tries."""
    try:
        told = both_at_tries(one, other, looked, bound)
    except (Unbounded, TooMany, TooMuch):
        return False
    if not all(same_but_steps(left, right) for tried, left, right in told):
        return False
    return is_reordered([(tried, without_steps(left)) for tried, left, right in told], thing)


def is_reordered(rows, thing):
    """Whether thing, of anything, is a tuple of these rows, each once, in any order."""
    if not isinstance(thing, tuple) or len(thing) != len(rows):
        return False
    waiting = list(rows)
    for row in thing:
        at = place_of(row, waiting)
        if at is None:
            return False
        del waiting[at]
    return True


def place_of(thing, rows):
    """Where thing, of anything, is among the rows; None where it is not."""
    for at, row in enumerate(rows):
        if is_same(row, thing):
            return at
    return None
