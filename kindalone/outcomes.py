"""Outcomes of runs, held against each other."""

from kindalone.plain import is_same
from kindalone.ties import tied_by


def without_steps(outcome):
    """The outcome but for its steps."""
    return outcome[:-1]


def same_but_steps(one, other):
    """Whether two outcomes are the same but for their steps."""
    return is_same(without_steps(one), without_steps(other))


def tied_outcomes(saying, setting, one, other):
    """Whether both fault, or their worths are tied by a saying, whatever the steps."""
    if one[0] == "fault" or other[0] == "fault":
        return one[0] == other[0]
    return tied_by(saying, setting, one[1], other[1])
