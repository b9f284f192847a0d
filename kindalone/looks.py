"""Leaks: what a function that looks tells otherwise, where things that it looks at are alike."""

from kindalone.checking import kind_of
from kindalone.kinds import arguments_of, leads, opens_in, result_of
from kindalone.outcomes import tied_outcomes
from kindalone.running import run
from kindalone.settings import left_sizes
from kindalone.ties import saying_of
from kindalone.tries import is_makers, tries_of
from kindalone.worths import worths_of


def leak_of(term, looked, bound):
    """A leak, (setting, left, right), or None where there is none; Unbounded, TooMany, TooMuch."""
    kind = kind_of(term, looked)
    saying = saying_of(result_of(kind))
    tries = tries_of(kind, looked, bound)
    # All are run ahead: a run that goes too far is refused at whatever try it comes.
    outcomes = [run(term, tried) for tried in tries]
    for right, outcome in zip(tries, outcomes):
        setting, left = parted_things(kind, right)
        if not tied_outcomes(saying, setting, run(term, left), outcome):
            return (setting, left, right)
    return None


def parted_things(kind, right):
    """The try whose things are all unlike at the places of this one's, and the setting that leads it to this one."""
    arguments = arguments_of(kind)
    came = {name: [] for name in opens_in(kind)}
    left = []
    for argument, worth in zip(arguments, right):
        left.append(worth if leads(argument) else next_things(worth, came))
    setting = tuple((name, len(came[name]), len(set(came[name])), tuple(enumerate(came[name]))) for name in came)
    for number, argument in enumerate(arguments):
        if leads(argument) and not is_makers(argument):
            left[number] = table_ahead(argument, setting, came, right[number])
    return setting, tuple(left)


def next_things(worth, came):
    """The data worth with the next thing in each one's stead; came gets which ones these lead to."""
    if not isinstance(worth, tuple):
        return worth
    if worth[0] == "thing":
        numbers = came[worth[1]]
        numbers.append(worth[2])
        return ("thing", worth[1], len(numbers) - 1)
    if worth[0] == "list":
        return ("list", tuple([next_things(item, came) for item in worth[1]]))
    return (worth[0], *[next_things(part, came) for part in worth[1:]])


def table_ahead(kind, setting, came, table):
    """The left table that tells of each worth what the right one tells of the one that it leads to."""
    told = {repr(asked): answer for asked, answer in table[1]}
    rows = []
    for worth in worths_of(kind[1], left_sizes(setting), 0):
        answer = told[repr(led_to(worth, came))]
        rows.append((worth, table_ahead(kind[2], setting, came, answer) if leads(kind[2]) else answer))
    return ("table", tuple(rows))


def led_to(worth, came):
    """The right worth of a small kind that a left one leads to."""
    if not isinstance(worth, tuple):
        return worth
    if worth[0] == "thing":
        return ("thing", worth[1], came[worth[1]][worth[2]])
    return (worth[0], *[led_to(part, came) for part in worth[1:]])
