"""The cases of a walked kind: tied arguments, in order."""

from kindalone.choices import one_of_each
from kindalone.errors import TooMany
from kindalone.kinds import arguments_of
from kindalone.settings import left_sizes, right_sizes
from kindalone.tiednumbers import tied_numbers
from kindalone.worths import worths_of

MOST_CASES = 200
# So many worths an argument has at most on a side.
MOST_ON_A_SIDE = 100


def cases_of(kind, setting, bound):
    """The cases of a walked kind by a setting of all its open names, in order; TooMany."""
    choices = [tied_choices(argument, setting, bound) for argument in arguments_of(kind)]
    return tuple(one_of_each(choices, MOST_CASES))


def tied_choices(argument, setting, bound):
    """The tied worths of an argument: by the left one, then by the right one."""
    lefts = side_of(argument, left_sizes(setting), bound)
    rights = side_of(argument, right_sizes(setting), bound)
    rows = tied_numbers(argument, setting, bound)
    return [(left, rights[number]) for left, row in zip(lefts, rows) for number in row]


def side_of(argument, sizes, bound):
    """The worths of an argument on a side, in order; TooMany where they are more than a hundred."""
    worths = worths_of(argument, sizes, bound)
    if len(worths) > MOST_ON_A_SIDE:
        raise TooMany(f"an argument with more than {MOST_ON_A_SIDE} worths on a side")
    return worths
