"""Mapping things by tables: ahead of a run, and behind it."""

from kindalone.checking import kind_of
from kindalone.kinds import arguments_of, result_of
from kindalone.running import Faulted, run
from kindalone.worths import FAULT


def mapped(kind, maps, worth):
    """The outcome, without steps, of mapping a worth of a data kind: each thing is what its name's table tells."""
    tables = {name: table for name, table in maps}
    try:
        return ("worth", led_on(kind, tables, worth))
    except Faulted:
        return FAULT


def led_on(kind, tables, worth):
    """The worth of a data kind with what the tables tell of its things; Faulted where one tells a fault."""
    word = kind[0]
    if word == "open":
        return told_of(tables, worth)
    if word == "pair":
        return ("pair", led_on(kind[1], tables, worth[1]), led_on(kind[2], tables, worth[2]))
    if word == "either":
        side = kind[1] if worth[0] == "left" else kind[2]
        return (worth[0], led_on(side, tables, worth[1]))
    if word == "list":
        return ("list", tuple([led_on(kind[1], tables, item) for item in worth[1]]))
    return worth


def told_of(tables, thing):
    """What its name's table tells of a thing; a fault, and a thing that there is no row for, are Faulted."""
    if thing[1] in tables:
        for asked, told in tables[thing[1]][1]:
            if asked == thing and told != FAULT:
                return told
    raise Faulted("a table's fault")


def moved(term, maps, args):
    """Two outcomes without steps: of mapping arguments, then running; of running, then mapping. TooMuch of a run."""
    kind = kind_of(term, ())
    return mapped_ahead(kind, term, maps, args), mapped_behind(kind, term, maps, args)


def mapped_ahead(kind, term, maps, args):
    """The outcome of a run with the arguments mapped; a fault where one of these faults."""
    handed = []
    for argument, worth in zip(arguments_of(kind), args):
        outcome = mapped(argument, maps, worth)
        if outcome == FAULT:
            return FAULT
        handed.append(outcome[1])
    return run(term, tuple(handed))[:-1]


def mapped_behind(kind, term, maps, args):
    """The outcome of a run, mapped."""
    outcome = run(term, args)
    if outcome[0] == "fault":
        return FAULT
    return mapped(result_of(kind), maps, outcome[1])
