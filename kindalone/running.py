"""Running a closed term, every step of it counted.

Each rule is handed the term, the worths of the names that count around it, and the steps so far. In a run a function is
one of these: ("closure", x, t, names), a fun with the names around it; a table; a maker; ("making", j, many, args), a
maker that has some of its arguments; ("putter",), a built's x; ("putting", item), that x with its first argument.
Other worths are held with how many parts they have.
"""

from kindalone.held import NO_ITEMS, given_out, items_of, make_list, make_made, make_pair, make_side, taken_in
from kindalone.limits import Steps, within_numbers
from kindalone.plain import is_same
from kindalone.worths import FAULT

PUTTER = ("putter",)


class Faulted(Exception):
    """A fault: it ends the whole run."""


def run(term, args):
    """The outcome of a closed term with these arguments; TooMuch where the run goes beyond a limit."""
    steps = Steps()
    try:
        worth = handed_in(term, args, steps)
    except Faulted:
        return ("fault", steps.taken)
    return ("worth", given_out(worth), steps.taken)


def handed_in(term, args, steps):
    """What a term tells of arguments, each handed in when what is ahead of it was run."""
    told = worth_at(term, {}, steps)
    for argument in args:
        told = called(told, taken_in(argument), steps)
    return told


def worth_at(term, names, steps):
    """The worth of a term where names have these worths."""
    rule = RULES[term[0]]
    return rule(term, names, steps)


def both_at(term, names, steps):
    """The worths of a term's first two terms, run in their order."""
    one = worth_at(term[1], names, steps)
    return one, worth_at(term[2], names, steps)


def called(function, argument, steps):
    """What a function tells of an argument."""
    steps.take()
    way = CALLS[function[0]]
    return way(function, argument, steps)


def call_closure(function, argument, steps):
    """A fun is run with its name bound."""
    word, x, inner, names = function
    return worth_at(inner, {**names, x: argument}, steps)


def call_table(function, argument, steps):
    """A table tells by its row; a fault, and a worth that it has no row for, end the run."""
    worth = given_out(argument)
    for asked, told in function[1]:
        if asked == worth and told != FAULT:
            return taken_in(told)
    raise Faulted("a table's fault")


def call_maker(function, argument, steps):
    """A maker begins with none of its arguments."""
    word, number, many = function
    return call_making(("making", number, many, ()), argument, steps)


def call_making(function, argument, steps):
    """A maker makes its worth when it has all its arguments."""
    word, number, many, had = function
    has = (*had, argument)
    if len(has) < many:
        return ("making", number, many, has)
    return make_made(number, has)


def call_putter(function, argument, steps):
    """A built's x keeps its first argument."""
    return ("putting", argument)


def call_putting(function, argument, steps):
    """A built's x puts its first argument on its second one."""
    return put_on(function[1], argument, steps)


def put_on(item, rest, steps):
    """The list with an item put on."""
    steps.take()
    return make_list(item, rest)


CALLS = {
    "closure": call_closure,
    "table": call_table,
    "maker": call_maker,
    "making": call_making,
    "putter": call_putter,
    "putting": call_putting,
}


def run_name(term, names, steps):
    """A name has the worth that it is bound to."""
    return names[term[1]]


def run_fun(term, names, steps):
    """A fun keeps the names around it."""
    return ("closure", term[1], term[3], names)


def run_call(term, names, steps):
    """A call runs the function, the argument, then what the function leads to."""
    function, argument = both_at(term, names, steps)
    return called(function, argument, steps)


def run_num(term, names, steps):
    """A number is itself."""
    return within_numbers(term[1])


def run_plus(term, names, steps):
    """Numbers are added."""
    one, other = both_at(term, names, steps)
    return within_numbers(one + other)


def run_less(term, names, steps):
    """Whether the first number is below the second."""
    one, other = both_at(term, names, steps)
    return one < other


def run_truth(term, names, steps):
    """A truth is itself."""
    return term[1]


def run_if(term, names, steps):
    """One way alone is run."""
    word, asked, yes, no = term
    if worth_at(asked, names, steps):
        return worth_at(yes, names, steps)
    return worth_at(no, names, steps)


def run_pair(term, names, steps):
    """Both parts make a pair."""
    one, other = both_at(term, names, steps)
    return make_pair(one, other)


def run_first(term, names, steps):
    """The first part of a pair."""
    return worth_at(term[1], names, steps)[1]


def run_second(term, names, steps):
    """The second part of a pair."""
    return worth_at(term[1], names, steps)[2]


def run_left(term, names, steps):
    """The left side of an either."""
    return make_side("left", worth_at(term[1], names, steps))


def run_right(term, names, steps):
    """The right side of an either."""
    return make_side("right", worth_at(term[2], names, steps))


def run_case(term, names, steps):
    """The side that is there is run alone."""
    word, asked, x, left, y, right = term
    side, worth, parts = worth_at(asked, names, steps)
    if side == "left":
        return worth_at(left, {**names, x: worth}, steps)
    return worth_at(right, {**names, y: worth}, steps)


def run_none(term, names, steps):
    """The list of none."""
    return NO_ITEMS


def run_more(term, names, steps):
    """An item is put on a list."""
    item, rest = both_at(term, names, steps)
    return put_on(item, rest, steps)


def run_fold(term, names, steps):
    """A turn for each item, from the last one to the first."""
    word, asked, begun, x, y, turn = term
    items = items_of(worth_at(asked, names, steps))
    told = worth_at(begun, names, steps)
    steps.take()
    for item in items[::-1]:
        steps.take()
        told = worth_at(turn, {**names, x: item, y: told}, steps)
    return told


def run_built(term, names, steps):
    """A list from what puts items on it."""
    word, data, own, x, y, inner = term
    steps.take()
    return worth_at(inner, {**names, x: PUTTER, y: NO_ITEMS}, steps)


def run_alike(term, names, steps):
    """Whether both things are the same."""
    one, other = both_at(term, names, steps)
    return is_same(one, other)


def run_fault(term, names, steps):
    """A fault ends the run."""
    raise Faulted("a fault")


def run_rounds(term, names, steps):
    """A turn, again while it tells a left; without a right in as many turns it faults."""
    word, turns, begun, x, turn = term
    told = worth_at(begun, names, steps)
    for number in range(turns):
        steps.take()
        side, told, parts = worth_at(turn, {**names, x: told}, steps)
        if side == "right":
            return told
    raise Faulted("no right in all turns")


RULES = {
    "name": run_name,
    "fun": run_fun,
    "call": run_call,
    "num": run_num,
    "plus": run_plus,
    "less": run_less,
    "truth": run_truth,
    "if": run_if,
    "pair": run_pair,
    "first": run_first,
    "second": run_second,
    "left": run_left,
    "right": run_right,
    "case": run_case,
    "none": run_none,
    "more": run_more,
    "fold": run_fold,
    "built": run_built,
    "alike": run_alike,
    "fault": run_fault,
    "rounds": run_rounds,
}
