"""A function shown case by case."""

from kindalone.cases import cases_of
from kindalone.checking import kind_of
from kindalone.kinds import result_of
from kindalone.outcomes import tied_outcomes
from kindalone.running import run
from kindalone.ties import saying_of


def shown(term, looked, setting, bound):
    """("holds", paper), or ("fails", case, left, right) of the first case whose outcomes are not tied."""
    kind = kind_of(term, looked)
    saying = saying_of(result_of(kind))
    paper = []
    for arguments in cases_of(kind, setting, bound):
        left, right = both_outcomes(term, arguments)
        if not tied_outcomes(saying, setting, left, right):
            return ("fails", arguments, left, right)
        paper.append((left, right))
    return ("holds", tuple(paper))


def both_outcomes(term, arguments):
    """The outcomes at the left and at the right arguments of a case."""
    left = run(term, tuple(one for one, other in arguments))
    return left, run(term, tuple(other for one, other in arguments))
