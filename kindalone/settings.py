"""Settings: how many things each open name has at the left and at the right, and which of them are tied."""

from kindalone.plain import is_name, is_number, is_rising


def is_setting(thing):
    """Whether thing, of anything, is a setting."""
    if not isinstance(thing, tuple) or not all(is_named(row) for row in thing):
        return False
    return is_rising([row[0] for row in thing])


def is_named(thing):
    """Whether thing, of anything, is what a setting tells of one open name."""
    if not isinstance(thing, tuple) or len(thing) != 4:
        return False
    name, lefts, rights, pairs = thing
    return is_name(name) and is_number(lefts) and is_number(rights) and are_pairs(pairs, lefts, rights)


def are_pairs(thing, lefts, rights):
    """Whether thing, of anything, is a rising tuple of pairs of things, so many at the left and at the right."""
    if not isinstance(thing, tuple) or not all(is_pair_of(pair, lefts, rights) for pair in thing):
        return False
    return is_rising(thing)


def is_pair_of(thing, lefts, rights):
    """Whether thing, of anything, has a left thing and a right one."""
    if not isinstance(thing, tuple) or len(thing) != 2:
        return False
    left, right = thing
    return is_number(left) and left < lefts and is_number(right) and right < rights


def left_sizes(setting):
    """How many things the names have at the left."""
    return tuple((name, lefts) for name, lefts, rights, pairs in setting)


def right_sizes(setting):
    """How many things the names have at the right."""
    return tuple((name, rights) for name, lefts, rights, pairs in setting)


def pairs_of(setting, asked):
    """The pairs of an open name; none where the setting does not have it."""
    for name, lefts, rights, pairs in setting:
        if name == asked:
            return pairs
    return ()
