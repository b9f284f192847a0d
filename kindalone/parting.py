"""Two functions of one kind, held against each other at all tries."""

from kindalone.checking import kind_of
from kindalone.outcomes import same_but_steps
from kindalone.running import run
from kindalone.tries import tries_of


def parted(one, other, looked, bound):
    """None where both are alike at all tries, else (try, left, right); Unbounded, TooMany, TooMuch."""
    for tried, left, right in both_at_tries(one, other, looked, bound):
        if not same_but_steps(left, right):
            return (tried, left, right)
    return None


def both_at_tries(one, other, looked, bound):
    """Each try with both outcomes, all of them run: a run that goes too far is refused at whatever try it comes."""
    tries = tries_of(kind_of(one, looked), looked, bound)
    return [(tried, run(one, tried), run(other, tried)) for tried in tries]
