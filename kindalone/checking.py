"""The kind of a term, from its parts.

Each rule is handed the term, the kinds of the names that count around it, and what is settled for the whole of it:
the names that are looked at and the known functions.
"""

from kindalone.errors import NoKind
from kindalone.filling import filled_kind
from kindalone.kinds import leads, opens_in
from kindalone.terms import is_term

NUM = ("num",)
TRUTH = ("truth",)


def kind_of(term, looked, known=None):
    """The kind of a closed term; NoKind where it has none."""
    if not is_term(term):
        raise NoKind("no term")
    return kind_at(term, {}, (looked, () if known is None else known))


def kind_at(term, names, settled):
    """The kind of a term where names have these kinds."""
    rule = RULES[term[0]]
    return rule(term, names, settled)


def need(held, why):
    """NoKind where something does not hold that a rule asks."""
    if not held:
        raise NoKind(why)


def need_same(one, other, why):
    """The kind that both are; NoKind where they are unlike."""
    need(one == other, why)
    return one


def data_at(term, names, settled):
    """The kind of a term that must have a data kind."""
    kind = kind_at(term, names, settled)
    need(not leads(kind), "a function where a data kind is asked")
    return kind


def formed_at(word, term, names, settled):
    """The kind of a term that must be of this word."""
    kind = kind_at(term, names, settled)
    need(kind[0] == word, f"no {word}")
    return kind


def of_name(term, names, settled):
    """A name has the kind of its binding."""
    need(term[1] in names, f"{term[1]} is not bound")
    return names[term[1]]


def of_fun(term, names, settled):
    """A fun leads from its argument to what it tells."""
    word, x, argument, inner = term
    return ("fun", argument, kind_at(inner, {**names, x: argument}, settled))


def of_call(term, names, settled):
    """A call has what the called one leads to."""
    called = formed_at("fun", term[1], names, settled)
    need_same(called[1], kind_at(term[2], names, settled), "called with another kind")
    return called[2]


def of_num(term, names, settled):
    """A number is a num."""
    return NUM


def of_plus(term, names, settled):
    """Nums make a num."""
    formed_at("num", term[1], names, settled)
    return formed_at("num", term[2], names, settled)


def of_less(term, names, settled):
    """Nums are compared to a truth."""
    of_plus(term, names, settled)
    return TRUTH


def of_truth(term, names, settled):
    """A truth is a truth."""
    return TRUTH


def of_if(term, names, settled):
    """Both ways of an if have its kind."""
    formed_at("truth", term[1], names, settled)
    yes = kind_at(term[2], names, settled)
    return need_same(yes, kind_at(term[3], names, settled), "an if of two kinds")


def of_pair(term, names, settled):
    """Data kinds make a pair."""
    return ("pair", data_at(term[1], names, settled), data_at(term[2], names, settled))


def of_first(term, names, settled):
    """The first kind of a pair."""
    return formed_at("pair", term[1], names, settled)[1]


def of_second(term, names, settled):
    """The second kind of a pair."""
    return formed_at("pair", term[1], names, settled)[2]


def of_left(term, names, settled):
    """The left of an either, whose right kind is written."""
    return ("either", data_at(term[1], names, settled), term[2])


def of_right(term, names, settled):
    """The right of an either, whose left kind is written."""
    return ("either", term[1], data_at(term[2], names, settled))


def of_case(term, names, settled):
    """Both sides of a case have its kind."""
    word, asked, x, left, y, right = term
    sides = formed_at("either", asked, names, settled)
    one = kind_at(left, {**names, x: sides[1]}, settled)
    return need_same(one, kind_at(right, {**names, y: sides[2]}, settled), "a case of two kinds")


def of_none(term, names, settled):
    """A list of the kind that is written."""
    return ("list", term[1])


def of_more(term, names, settled):
    """What is put on a list is of its items' kind."""
    item = kind_at(term[1], names, settled)
    return need_same(("list", item), kind_at(term[2], names, settled), "put on what is no list of it")


def of_fold(term, names, settled):
    """What a fold begins with has its kind, and so has each turn."""
    word, asked, begun, x, y, turn = term
    items = formed_at("list", asked, names, settled)
    end = data_at(begun, names, settled)
    told = kind_at(turn, {**names, x: items[1], y: end}, settled)
    return need_same(end, told, "a fold whose turn tells another kind")


def of_built(term, names, settled):
    """A list is built by what can not look at it: its own name is in no kind around."""
    word, item, own, x, y, inner = term
    need(own not in settled[0], "a built's own name is looked at")
    need(own not in opens_in(item), "a built's own name is in its items' kind")
    for kind in names.values():
        need(own not in opens_in(kind), "a built's own name is in a kind around it")
    end = ("open", own)
    told = kind_at(inner, {**names, x: ("fun", item, ("fun", end, end)), y: end}, settled)
    need_same(end, told, "a built that tells something else than its own")
    return ("list", item)


def of_alike(term, names, settled):
    """Things of one name that is looked at are compared to a truth."""
    one = formed_at("open", term[1], names, settled)
    need_same(one, kind_at(term[2], names, settled), "two kinds are compared")
    need(one[1] in settled[0], f"{one[1]} is not looked at")
    return TRUTH


def of_fault(term, names, settled):
    """A fault has the kind that is written."""
    return term[1]


def of_rounds(term, names, settled):
    """A turn tells another round or the end."""
    word, turns, begun, x, turn = term
    round_kind = data_at(begun, names, settled)
    sides = formed_at("either", turn, {**names, x: round_kind}, settled)
    need_same(round_kind, sides[1], "a turn that leads to another kind")
    return sides[2]


def of_told(term, names, settled):
    """A known function has its kind filled."""
    looked, known = settled
    for name, looks, kind in known:
        if name == term[1]:
            need_fills(term[2], opens_in(kind), looks, looked)
            return filled_kind(kind, term[2])
    raise NoKind(f"{term[1]} is not known")


def need_fills(fills, opens, looks, looked):
    """NoKind where fills are not of just these open names, or a name that is looked at gets what is not."""
    need([name for name, kind in fills] == list(opens), "fills of other names than the kind has")
    for name, kind in fills:
        seen = kind[0] == "open" and kind[1] in looked
        need(name not in looks or seen, f"{name} is looked at, what it is filled by is not")


RULES = {
    "name": of_name,
    "fun": of_fun,
    "call": of_call,
    "num": of_num,
    "plus": of_plus,
    "less": of_less,
    "truth": of_truth,
    "if": of_if,
    "pair": of_pair,
    "first": of_first,
    "second": of_second,
    "left": of_left,
    "right": of_right,
    "case": of_case,
    "none": of_none,
    "more": of_more,
    "fold": of_fold,
    "built": of_built,
    "alike": of_alike,
    "fault": of_fault,
    "rounds": of_rounds,
    "told": of_told,
}
