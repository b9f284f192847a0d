"""What a run may come to at most: its steps, its numbers, the worths that it makes."""

from kindalone.errors import TooMuch
from kindalone.plain import is_whole

MOST_STEPS = 1000
GREATEST = 10 ** 30
MOST_PARTS = 200


class Steps:
    """The steps that a run has taken so far."""

    def __init__(self):
        self.taken = 0

    def take(self):
        """One more step; TooMuch where it is one too many."""
        self.taken += 1
        if self.taken > MOST_STEPS:
            raise TooMuch(f"more than {MOST_STEPS} steps")


def within_numbers(number):
    """The number; TooMuch where it is too great."""
    if number > GREATEST:
        raise TooMuch(f"a number above {GREATEST}")
    return number


def within_parts(worth):
    """The worth, which was just made; TooMuch where it has too many parts."""
    many = 0
    waiting = [worth]
    while waiting:
        many += 1
        if many > MOST_PARTS:
            raise TooMuch(f"a worth of more than {MOST_PARTS} parts")
        part = waiting.pop()
        waiting.extend(worths_within(part))
    return worth


def from_outside(worth):
    """The worth, which is handed in or told by a table; TooMuch where a number in it is too great."""
    waiting = [worth]
    while waiting:
        part = waiting.pop()
        if is_whole(part):
            within_numbers(part)
        waiting.extend(worths_within(part))
    return worth


def worths_within(worth):
    """The worths that stand directly in a worth; a function has none, whatever it may tell."""
    if not isinstance(worth, tuple):
        return ()
    word = worth[0]
    if word in ("pair", "left", "right"):
        return worth[1:]
    if word == "list":
        return worth[1]
    if word == "made":
        return worth[2]
    return ()
