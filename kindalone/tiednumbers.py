"""The tied worths of a kind by their numbers, in the order in which worths are listed.

Told is, for each left worth, which right worths are tied with it, rising. They are put together from the tied parts, so
that no worth is ever held against another one: the time goes with the tied ones, not with all.
"""

from kindalone.settings import left_sizes, pairs_of, right_sizes
from kindalone.worths import longer, many_worths


def tied_numbers(kind, setting, bound):
    """For each left worth of a data or handed kind, which has not too many on a side, the tied right ones."""
    lefts = many_worths(kind, left_sizes(setting), bound)
    rights = many_worths(kind, right_sizes(setting), bound)
    # Where there are none on a side, the parts may have far too many.
    if lefts == 0 or rights == 0:
        return [[] for left in range(lefts)]
    word = kind[0]
    if word == "open":
        return tied_things(pairs_of(setting, kind[1]), lefts)
    if word in ("num", "truth"):
        return [[number] for number in range(lefts)]
    if word == "list":
        return tied_lists(kind, setting, bound)
    if word == "fun":
        return tied_tables(kind, setting, bound, lefts, rights)
    ones = tied_numbers(kind[1], setting, bound)
    others = tied_numbers(kind[2], setting, bound)
    if word == "either":
        behind = many_worths(kind[1], right_sizes(setting), bound)
        return ones + [[behind + number for number in row] for row in others]
    return put_behind(ones, others, many_worths(kind[2], right_sizes(setting), bound))


def tied_things(pairs, lefts):
    """Things are tied by their name's pairs, which rise."""
    rows = [[] for left in range(lefts)]
    for left, right in pairs:
        rows[left].append(right)
    return rows


def put_behind(ones, others, many):
    """What is tied, of runs with another worth behind, which has so many at the right."""
    return [[one * many + other for one in row for other in last] for row in ones for last in others]


def tied_lists(kind, setting, bound):
    """Lists are tied item by item, the shorter ones ahead."""
    rows = [[0]]
    # Without an item of any length the items may be far too many.
    if bound == 0:
        return rows
    items = tied_numbers(kind[1], setting, bound)
    many = many_worths(kind[1], right_sizes(setting), bound)
    runs = [[0]]
    behind = 0
    as_long = 1
    for length in range(bound):
        runs = put_behind(runs, items, many)
        if not runs:
            break
        behind += as_long
        as_long = as_long * many
        rows.extend([[behind + number for number in row] for row in runs])
    return rows


def tied_tables(kind, setting, bound, lefts, rights):
    """Tables are tied where for tied worths they tell tied ones."""
    asked_left = many_worths(kind[1], left_sizes(setting), bound)
    asked_right = many_worths(kind[1], right_sizes(setting), bound)
    # A table without rows is tied with all, and what it would tell may be far too many.
    if asked_left == 0 or asked_right == 0:
        return [list(range(rights)) for left in range(lefts)]
    told = tied_numbers(kind[2], setting, bound)
    many = many_worths(kind[2], right_sizes(setting), bound)
    # A table of many rows tells but one worth: what is asked of it need not be gone through.
    if all(len(row) == many for row in told):
        return [list(range(rights)) for left in range(lefts)]
    asking = turned(tied_numbers(kind[1], setting, bound), asked_right)
    answers = list(range(len(told)))
    runs = [()]
    for row in range(asked_left):
        runs = longer(runs, answers)
    return [tied_with(run, asking, told, many) for run in runs]


def turned(rows, rights):
    """For each right worth the left ones that are tied with it."""
    asking = [[] for right in range(rights)]
    for left, row in enumerate(rows):
        for right in row:
            asking[right].append(left)
    return asking


def tied_with(run, asking, told, many):
    """The right tables that are tied with the left one that tells this run, row by row."""
    numbers = [0]
    for lefts in asking:
        answers = sorted({run[left] for left in lefts})
        choice = in_all([told[answer] for answer in answers], many)
        if not choice:
            return []
        numbers = [number * many + answer for number in numbers for answer in choice]
    return numbers


def in_all(rows, many):
    """The numbers below many that are in all the rows."""
    if not rows:
        return list(range(many))
    found = rows[0]
    for row in rows[1:]:
        found = [number for number in found if number in row]
    return found
