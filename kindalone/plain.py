"""The plain things that kinds, terms and worths are made of."""

LETTERS = "abcdefghijklmnopqrstuvwxyz"
LONGEST_NAME = 8


def is_name(thing):
    """Whether thing is a name: one to eight letters a to z."""
    if not isinstance(thing, str) or not 1 <= len(thing) <= LONGEST_NAME:
        return False
    return all(letter in LETTERS for letter in thing)


def is_truth(thing):
    """Whether thing is True or False, and not a number that equals one."""
    return isinstance(thing, bool)


def is_whole(thing):
    """Whether thing is a whole number; Python counts truths among its integers."""
    return isinstance(thing, int) and not isinstance(thing, bool)


def is_number(thing):
    """Whether thing is a whole number from 0 on."""
    return is_whole(thing) and thing >= 0


def is_tagged(thing, word, many):
    """Whether thing is a tuple of this word and so many parts behind it."""
    return isinstance(thing, tuple) and len(thing) == many + 1 and thing[0] == word


def is_rising(row):
    """Whether each in the row is above the one ahead of it."""
    return all(one < other for one, other in zip(row, row[1:]))


def is_same(one, other):
    """Whether other, of anything, is the same as one throughout; Python takes True for 1, so == does not tell."""
    # Made ones stand up to two hundred deep in one another: what waits is kept in a list.
    waiting = [(one, other)]
    while waiting:
        left, right = waiting.pop()
        if isinstance(left, tuple):
            if not isinstance(right, tuple) or len(left) != len(right):
                return False
            waiting.extend(list(zip(left, right)))
        elif isinstance(right, tuple) or left != right or is_truth(left) != is_truth(right):
            return False
    return True
