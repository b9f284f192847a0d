"""One of each of several choices."""

from kindalone.errors import TooMany
from kindalone.worths import longer


def one_of_each(choices, most):
    """All tuples with one of each of the choices, in order; TooMany where there are more than most."""
    many = 1
    for choice in choices:
        many = many * len(choice)
    if many > most:
        raise TooMany(f"more than {most}")
    # The choices ahead of an empty one may be far too many to be put together.
    if many == 0:
        return []
    runs = [()]
    for choice in choices:
        runs = longer(runs, choice)
    return runs
