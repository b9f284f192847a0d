"""Papers of functions shown, checked."""

from kindalone.cases import cases_of
from kindalone.checking import kind_of
from kindalone.errors import TooMany, TooMuch
from kindalone.kinds import result_of
from kindalone.outcomes import tied_outcomes
from kindalone.plain import is_same
from kindalone.showing import both_outcomes
from kindalone.ties import saying_of


def paper_holds(term, looked, setting, bound, thing):
    """Whether thing, of anything, is the paper of a function that holds at all cases."""
    if not isinstance(thing, tuple):
        return False
    kind = kind_of(term, looked)
    saying = saying_of(result_of(kind))
    try:
        cases = cases_of(kind, setting, bound)
        if len(cases) != len(thing):
            return False
        # Row by row, that a wrong one ends it: the runs take the most time.
        for arguments, row in zip(cases, thing):
            told = both_outcomes(term, arguments)
            if not is_same(told, row) or not tied_outcomes(saying, setting, *told):
                return False
    except (TooMany, TooMuch):
        return False
    return True
