"""The tries of a walked kind: the arguments that part any two of its functions within a bound."""

from kindalone.choices import one_of_each
from kindalone.errors import TooMany, Unbounded
from kindalone.kinds import arguments_of, leads, opens_in, parts_of, result_of
from kindalone.worths import worths_of

MOST_TRIES = 200


def unbounded_at(kind, looked):
    """The number of the first argument by which the tries have no end; None where they have one."""
    arguments = arguments_of(kind)
    made = [result_of(argument)[1] for argument in arguments if is_makers(argument)]
    for number, argument in enumerate(arguments):
        if leads(argument) and not has_end(argument, made, looked):
            return number
    return None


def is_makers(argument):
    """Whether an argument is a maker's: handed, with an open name as its result."""
    return leads(argument) and result_of(argument)[0] == "open"


def has_end(argument, made, looked):
    """Whether a handed argument is a maker's, of a name that is not looked at, or an asker's."""
    if is_makers(argument):
        return result_of(argument)[1] not in looked
    return is_askers(argument, made)


def is_askers(argument, made):
    """Whether a handed argument asks of things that are not made, and tells nothing that has a thing in it."""
    if any(part[0] in ("list", "open") for part in parts_of(result_of(argument))):
        return False
    return not any(name in made for name in opens_in(argument))


def tries_of(kind, looked, bound):
    """All tries of a walked kind, each once; Unbounded, then TooMany."""
    number = unbounded_at(kind, looked)
    if number is not None:
        raise Unbounded(number)
    arguments = arguments_of(kind)
    runs = [((), {})]
    for argument in arguments:
        if not leads(argument):
            runs = longer_runs(runs, argument, looked, bound)
    tries = []
    for worths, came in runs:
        tries.extend(with_handed(arguments, worths, came, bound))
        need_few(tries)
    return tuple(tries)


def need_few(found):
    """TooMany where there are more than the tries may be: each that is found leads to a try at least."""
    if len(found) > MOST_TRIES:
        raise TooMany(f"more than {MOST_TRIES} tries")


def longer_runs(runs, kind, looked, bound):
    """Each run of worths, with what came in it, with each worth of a data kind behind it."""
    found = []
    for worths, came in runs:
        for worth, later in ways_of(kind, came, looked, bound):
            found.append(((*worths, worth), later))
        need_few(found)
    return found


def ways_of(kind, came, looked, bound):
    """The worths of a data kind, each with how many things of each name came up to its end."""
    word = kind[0]
    if word == "open":
        return ways_of_thing(kind[1], came, looked)
    if word == "num":
        # A bound may be far too great to be counted to.
        return [(number, came) for number in range(min(bound, MOST_TRIES) + 1)]
    if word == "truth":
        return [(False, came), (True, came)]
    if word == "either":
        return ways_of_side("left", kind[1], came, looked, bound) + ways_of_side("right", kind[2], came, looked, bound)
    if word == "list":
        return ways_of_list(kind[1], came, looked, bound)
    runs = longer_runs([((), came)], kind[1], looked, bound)
    return [(("pair", *both), later) for both, later in longer_runs(runs, kind[2], looked, bound)]


def ways_of_thing(name, came, looked):
    """The next thing of a name; of a looked name any that came ahead, too."""
    many = came.get(name, 0)
    ahead = [(("thing", name, number), came) for number in range(many) if name in looked]
    return [*ahead, (("thing", name, many), {**came, name: many + 1})]


def ways_of_side(side, kind, came, looked, bound):
    """The worths at one side of an either."""
    return [((side, worth), later) for worth, later in ways_of(kind, came, looked, bound)]


def ways_of_list(kind, came, looked, bound):
    """The lists of at most bound items."""
    runs = [((), came)]
    found = list(runs)
    for length in range(bound):
        runs = longer_runs(runs, kind, looked, bound)
        found.extend(runs)
        need_few(found)
    return [(("list", items), later) for items, later in found]


def with_handed(arguments, worths, came, bound):
    """The tries with these worths as their data arguments; askers' tables are by the things that came in these."""
    sizes = tuple(sorted(came.items()))
    choices = []
    used = 0
    for number, argument in enumerate(arguments):
        if not leads(argument):
            choices.append((worths[used],))
            used += 1
        elif is_makers(argument):
            choices.append((("maker", number, len(arguments_of(argument))),))
        else:
            choices.append(worths_of(argument, sizes, bound))
    return one_of_each(choices, MOST_TRIES)
