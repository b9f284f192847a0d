"""What a run may come to at most: its steps, its numbers, the worths that it makes."""

from kindalone.errors import TooMuch

MOST_STEPS = 1000
GREATEST = 10 ** 30
MOST_PARTS = 200


class Steps:
    """The steps that a run has taken so far."""

    def __init__(self):
        self.taken = 0

    def take(self):
        """One more step; TooMuch where it is one too many."""
        self.taken += 1
        if self.taken > MOST_STEPS:
            raise TooMuch(f"more than {MOST_STEPS} steps")


def within_numbers(number):
    """The number; TooMuch where it is too great."""
    if number > GREATEST:
        raise TooMuch(f"a number above {GREATEST}")
    return number


def within_parts(many):
    """How many parts a worth has that is made; TooMuch where they are too many."""
    if many > MOST_PARTS:
        raise TooMuch(f"a worth of more than {MOST_PARTS} parts")
    return many


def worths_within(worth):
    """The worths that stand directly in a worth; a function has none, whatever it may tell."""
    if not isinstance(worth, tuple):
        return ()
    word = worth[0]
    if word in ("pair", "left", "right"):
        return worth[1:]
    if word == "list":
        return worth[1]
    if word == "made":
        return worth[2]
    return ()
