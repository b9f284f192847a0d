"""Worths of data and handed kinds: which they are, and all of them in order."""

from kindalone.errors import TooMany
from kindalone.kinds import is_handed, leads
from kindalone.plain import is_number, is_tagged, is_truth

# So many worths are listed at most, and a listed table has so many rows at most.
MOST = 300
FAULT = ("fault",)


def is_worth(kind, sizes, thing):
    """Whether thing, of anything, is a worth of the kind by the sizes."""
    check = CHECKS[kind[0]]
    return check(kind, sizes, thing)


def is_thing(kind, sizes, thing):
    """Whether thing is a thing of this open name, numbered below how many it has."""
    if not is_tagged(thing, "thing", 2) or thing[1] != kind[1]:
        return False
    return is_number(thing[2]) and thing[2] < things_of(sizes, kind[1])


def is_num(kind, sizes, thing):
    """Whether thing is a worth of num."""
    return is_number(thing)


def is_yes_or_no(kind, sizes, thing):
    """Whether thing is a worth of truth."""
    return is_truth(thing)


def is_pair(kind, sizes, thing):
    """Whether thing is a pair of worths of both kinds."""
    return is_tagged(thing, "pair", 2) and is_worth(kind[1], sizes, thing[1]) and is_worth(kind[2], sizes, thing[2])


def is_side(kind, sizes, thing):
    """Whether thing is a left or a right of an either."""
    if is_tagged(thing, "left", 1):
        return is_worth(kind[1], sizes, thing[1])
    return is_tagged(thing, "right", 1) and is_worth(kind[2], sizes, thing[1])


def is_list(kind, sizes, thing):
    """Whether thing is a list of worths of one kind."""
    if not is_tagged(thing, "list", 1) or not isinstance(thing[1], tuple):
        return False
    return all(is_worth(kind[1], sizes, item) for item in thing[1])


def is_table(kind, sizes, thing):
    """Whether thing is a table of a handed kind; none is, whose argument has too many worths to be listed."""
    if not is_handed(kind) or not is_tagged(thing, "table", 1) or not isinstance(thing[1], tuple):
        return False
    try:
        asked = worths_of(kind[1], sizes, 0)
    except TooMany:
        return False
    rows = thing[1]
    return len(rows) == len(asked) and all(is_row(kind, sizes, worth, row) for worth, row in zip(asked, rows))


def is_row(kind, sizes, worth, row):
    """Whether row, of anything, is a table's row for this worth of its first argument."""
    if not isinstance(row, tuple) or len(row) != 2:
        return False
    # Python takes ("thing", "a", True) for ("thing", "a", 1), so that being the same is not enough.
    if row[0] != worth or not is_worth(kind[1], sizes, row[0]):
        return False
    if row[1] == FAULT:
        return not leads(kind[2])
    return is_worth(kind[2], sizes, row[1])


CHECKS = {
    "open": is_thing,
    "num": is_num,
    "truth": is_yes_or_no,
    "pair": is_pair,
    "either": is_side,
    "list": is_list,
    "fun": is_table,
}


def things_of(sizes, name):
    """How many things an open name has by the sizes."""
    for sized, many in sizes:
        if sized == name:
            return many
    return 0


def worths_of(kind, sizes, bound):
    """All worths of a data or handed kind, in order; TooMany where they, or a table's rows, are more than 300."""
    if many_worths(kind, sizes, bound) > MOST:
        raise TooMany(f"more than {MOST} worths")
    if has_long_table(kind, sizes, bound):
        raise TooMany(f"a table of more than {MOST} rows")
    return listed(kind, sizes, bound)


def cut(many):
    """The number, or just above MOST where it is above: greater ones need not be told apart."""
    return min(many, MOST + 1)


def many_worths(kind, sizes, bound):
    """How many worths a kind has, cut; they are counted, as there may be far too many to list."""
    word = kind[0]
    if word == "open":
        return cut(things_of(sizes, kind[1]))
    if word == "num":
        return cut(bound + 1)
    if word == "truth":
        return 2
    many = [many_worths(part, sizes, bound) for part in kind[1:]]
    if word == "pair":
        return cut(many[0] * many[1])
    if word == "either":
        return cut(many[0] + many[1])
    if word == "list":
        return many_lists(many[0], bound)
    return many_runs(many[1], many[0])


def many_lists(many, bound):
    """How many lists of at most bound items there are of so many worths, cut."""
    total = 1
    longest = 1
    for length in range(bound):
        longest = longest * many
        total = cut(total + longest)
        if longest == 0 or total > MOST:
            break
    return total


def many_runs(many, length):
    """How many runs of this length there are of so many worths, cut."""
    total = 1
    for place in range(length):
        total = cut(total * many)
    return total


def has_long_table(kind, sizes, bound):
    """Whether a worth of the kind is, or has in it, a table of too many rows; where there is no table there is none."""
    rest = kind
    while leads(rest) and many_worths(rest, sizes, bound) > 0:
        rows = many_worths(rest[1], sizes, bound)
        if rows > MOST:
            return True
        if rows == 0:
            return False
        rest = rest[2]
    return False


def listed(kind, sizes, bound):
    """The worths of a kind that has not too many of them, in order."""
    # A pair of too many worths and of none has none: the parts are not to be listed then.
    if many_worths(kind, sizes, bound) == 0:
        return ()
    word = kind[0]
    if word == "open":
        return tuple(("thing", kind[1], number) for number in range(things_of(sizes, kind[1])))
    if word == "num":
        return tuple(range(bound + 1))
    if word == "truth":
        return (False, True)
    if word == "list":
        return listed_lists(kind, sizes, bound)
    if word == "fun":
        return listed_tables(kind, sizes, bound)
    ones = listed(kind[1], sizes, bound)
    others = listed(kind[2], sizes, bound)
    if word == "either":
        return tuple([("left", one) for one in ones] + [("right", other) for other in others])
    return tuple(("pair", one, other) for one in ones for other in others)


def listed_lists(kind, sizes, bound):
    """The lists of a list kind, the shorter ones ahead."""
    # Without an item of any length the items may be too many to be listed.
    items = () if bound == 0 else listed(kind[1], sizes, bound)
    lists = []
    runs = [()]
    for length in range(bound + 1):
        lists.extend([("list", run) for run in runs])
        runs = longer(runs, items)
        if not runs:
            break
    return tuple(lists)


def listed_tables(kind, sizes, bound):
    """The tables of a handed kind that has some, row by row."""
    asked = listed(kind[1], sizes, bound)
    if not asked:
        return (("table", ()),)
    told = listed(kind[2], sizes, bound)
    runs = [()]
    for place in range(len(asked)):
        runs = longer(runs, told)
    return tuple(("table", tuple(zip(asked, run))) for run in runs)


def longer(runs, worths):
    """Each run with each worth behind it, in order."""
    return [(*run, worth) for run in runs for worth in worths]
