"""Worths as a run holds them: each with how many parts it has, so that a greater one is not gone through to be made.

Numbers, truths, things and functions are held as they are, the others so: ("pair", v, w, parts), ("left", v, parts),
("right", w, parts), ("made", j, args, parts), and lists by their first item: ("more", item, rest, parts), ("none", 1).
"""

from kindalone.limits import within_numbers, within_parts, worths_within

NO_ITEMS = ("none", 1)


def parts_in(worth):
    """How many parts a held worth has."""
    if not isinstance(worth, tuple) or worth[0] == "thing":
        return 1
    return worth[-1]


def make_pair(one, other):
    """A pair, made in a run; TooMuch where it has too many parts."""
    return ("pair", one, other, within_parts(1 + parts_in(one) + parts_in(other)))


def make_side(side, worth):
    """A left or a right, made in a run."""
    return (side, worth, within_parts(1 + parts_in(worth)))


def make_list(item, rest):
    """A list with an item put on, made in a run."""
    return ("more", item, rest, within_parts(parts_in(item) + rest[-1]))


def make_made(number, args):
    """What a maker of this number makes in a run."""
    return ("made", number, args, within_parts(1 + sum([parts_in(part) for part in args])))


def items_of(worth):
    """The items of a held list, in order."""
    items = []
    rest = worth
    while rest[0] == "more":
        items.append(rest[1])
        rest = rest[2]
    return items


def taken_in(worth):
    """The worth, handed in or told by a table, as it is held; TooMuch where a number in it is too great."""
    # Most are numbers, truths and things: these are not gone through.
    if not isinstance(worth, tuple):
        return within_numbers(worth)
    if worth[0] == "thing":
        return worth
    return rebuilt(worth, worths_within, held)


def held(worth, inner):
    """A worth as it is held, with what is directly in it held already; it was not made, however great it is."""
    if not isinstance(worth, tuple):
        return within_numbers(worth)
    word = worth[0]
    if word == "list":
        told = NO_ITEMS
        for item in inner[::-1]:
            told = ("more", item, told, parts_in(item) + told[-1])
        return told
    if not inner:
        return worth
    many = 1 + sum([parts_in(part) for part in inner])
    if word == "made":
        return (word, worth[1], tuple(inner), many)
    return (word, *inner, many)


def given_out(worth):
    """The worth that is held."""
    if not isinstance(worth, tuple) or worth[0] == "thing":
        return worth
    return rebuilt(worth, held_within, released)


def held_within(worth):
    """The held worths that stand directly in a held one."""
    if not isinstance(worth, tuple):
        return ()
    word = worth[0]
    if word in ("pair", "left", "right"):
        return worth[1:-1]
    if word == "more":
        return items_of(worth)
    if word == "made":
        return worth[2]
    return ()


def released(worth, inner):
    """A held worth as it is outside of a run, with what is directly in it."""
    if not isinstance(worth, tuple):
        return worth
    word = worth[0]
    if word in ("more", "none"):
        return ("list", tuple(inner))
    if word in ("pair", "left", "right"):
        return (word, *inner)
    if word == "made":
        return (word, worth[1], tuple(inner))
    return worth


def rebuilt(worth, within, joined):
    """The worth put together anew from its innermost parts on; what waits is kept in lists, as made ones stand deep."""
    order = []
    waiting = [worth]
    while waiting:
        part = waiting.pop()
        inner = within(part)
        order.append((part, len(inner)))
        waiting.extend(inner)
    done = []
    for part, many in reversed(order):
        behind = len(done) - many
        inner = done[behind:]
        del done[behind:]
        done.append(joined(part, inner))
    return done[0]
