"""Kinds: data kinds, first kinds, told kinds."""

from kindalone.plain import is_name, is_tagged

# What stands behind each word of a kind.
KIND_FORMS = {
    "open": ("name",),
    "num": (),
    "truth": (),
    "pair": ("kind", "kind"),
    "either": ("kind", "kind"),
    "list": ("kind",),
    "fun": ("kind", "kind"),
}


def is_data(thing):
    """Whether thing, of anything, is a data kind."""
    waiting = [thing]
    while waiting:
        part = waiting.pop()
        if not has_data_form(part):
            return False
        waiting.extend(kinds_within(part))
    return True


def has_data_form(thing):
    """Whether thing has a data kind's word and as many parts as that asks; of the parts a name alone is looked at."""
    if not isinstance(thing, tuple) or not thing or not isinstance(thing[0], str):
        return False
    word = thing[0]
    if word == "fun" or word not in KIND_FORMS or len(thing) != len(KIND_FORMS[word]) + 1:
        return False
    return word != "open" or is_name(thing[1])


def kinds_within(kind):
    """The kinds that stand directly in a kind."""
    if kind[0] == "open":
        return ()
    return kind[1:]


def is_first(thing):
    """Whether thing, of anything, is a first kind."""
    if not is_tagged(thing, "fun", 2):
        return False
    rest = thing
    while is_tagged(rest, "fun", 2):
        if not is_data(rest[1]):
            return False
        rest = rest[2]
    return is_data(rest)


def is_argument(thing):
    """Whether thing, of anything, is a kind that an argument may have: a data or a first kind."""
    return is_data(thing) or is_first(thing)


def is_kind(thing):
    """Whether thing, of anything, is a kind: a data or a told kind."""
    rest = thing
    while is_tagged(rest, "fun", 2):
        if not is_argument(rest[1]):
            return False
        rest = rest[2]
    return is_data(rest)


def leads(kind):
    """Whether a kind leads from an argument; of kinds just the data kinds do not."""
    return kind[0] == "fun"


def parts_of(kind):
    """The parts of a kind: itself and all kinds within it, in any order."""
    parts = []
    waiting = [kind]
    while waiting:
        part = waiting.pop()
        parts.append(part)
        waiting.extend(kinds_within(part))
    return parts


def is_small(kind):
    """Whether a kind is a data kind with neither num nor list in it."""
    return all(part[0] not in ("fun", "num", "list") for part in parts_of(kind))


def is_handed(kind):
    """Whether a kind is a first kind whose arguments are all small."""
    return leads(kind) and all(is_small(argument) for argument in arguments_of(kind))


def is_walked(kind):
    """Whether a kind is a told kind whose arguments are all data kinds or handed."""
    return leads(kind) and all(not leads(argument) or is_handed(argument) for argument in arguments_of(kind))


def arguments_of(kind):
    """The arguments of a kind, in order; none of a data kind."""
    arguments = []
    rest = kind
    while leads(rest):
        arguments.append(rest[1])
        rest = rest[2]
    return tuple(arguments)


def result_of(kind):
    """The data kind at the end of a kind; a data kind is its own."""
    rest = kind
    while leads(rest):
        rest = rest[2]
    return rest


def opens_in(kind):
    """The open names in a kind, rising, each once."""
    return tuple(sorted({part[1] for part in parts_of(kind) if part[0] == "open"}))
