"""Whether things are the arguments of a kind, by whatever sizes."""

from kindalone.kinds import arguments_of, leads, result_of
from kindalone.plain import is_name, is_number, is_same, is_tagged
from kindalone.worths import is_worth


def are_arguments(kind, things, makers):
    """Whether things, of anything, are worths of a kind's arguments by one and the same sizes; or their makers."""
    arguments = arguments_of(kind)
    if len(arguments) != len(things):
        return False
    sizes = least_sizes(things)
    for number, argument in enumerate(arguments):
        made = makers and is_maker_of(argument, number, things[number])
        if not made and not is_worth(argument, sizes, things[number]):
            return False
    return True


def is_maker_of(argument, number, thing):
    """Whether thing, of anything, is the maker of the argument of this number."""
    if not leads(argument) or result_of(argument)[0] != "open":
        return False
    return is_same(("maker", number, len(arguments_of(argument))), thing)


def least_sizes(things):
    """The least sizes that have all things in things, of anything.

    Where these are worths by any sizes they are so by the least ones, too: a table has a row for each worth that it is
    asked, so that no greater size is asked of it than its rows name.
    """
    sizes = {}
    waiting = list(things)
    while waiting:
        part = waiting.pop()
        if is_tagged(part, "thing", 2) and is_name(part[1]) and is_number(part[2]):
            sizes[part[1]] = max(sizes.get(part[1], 0), part[2] + 1)
        elif isinstance(part, tuple):
            waiting.extend(part)
    return tuple((name, sizes[name]) for name in sorted(sizes))
