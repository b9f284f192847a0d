"""Papers of functions that are alike, checked."""

from kindalone.checking import kind_of
from kindalone.errors import TooMany, TooMuch, Unbounded
from kindalone.outcomes import same_but_steps, without_steps
from kindalone.plain import is_same
from kindalone.running import run
from kindalone.tries import tries_of


def alike_holds(one, other, looked, bound, thing):
    """Whether thing, of anything, is a paper of two functions that are alike at all tries."""
    if not isinstance(thing, tuple):
        return False
    try:
        tries = tries_of(kind_of(one, looked), looked, bound)
        outcomes = outcomes_by_try(thing, tries)
        if outcomes is None:
            return False
        for tried, outcome in zip(tries, outcomes):
            left = run(one, tried)
            if not is_same(without_steps(left), outcome) or not same_but_steps(left, run(other, tried)):
                return False
    except (Unbounded, TooMany, TooMuch):
        return False
    return True


def outcomes_by_try(rows, tries):
    """What the rows, of anything, tell for each try; None where they have not each try just once."""
    if len(rows) != len(tries):
        return None
    told = {}
    for row in rows:
        if not isinstance(row, tuple) or len(row) != 2:
            return None
        # Python takes True for 1, and its keys may not be lists: what is written of a try tells it from all else.
        told[repr(row[0])] = row[1]
    found = []
    for tried in tries:
        key = repr(tried)
        if key not in told:
            return None
        found.append(told[key])
    return found
