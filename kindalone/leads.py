"""Leads: programs without the lists between, step by step.

Each rule has what tells whether it goes at a term, and what the term becomes, where names have these kinds around it.
"""

from kindalone.checking import kind_at
from kindalone.errors import NoLead
from kindalone.filling import filled, names_in, new_names, own_names
from kindalone.kinds import opens_in
from kindalone.owns import settled_owns
from kindalone.plain import is_number
from kindalone.scopes import names_within
from kindalone.straight import is_straight, is_without
from kindalone.terms import places_of, terms_in
from kindalone.unused import Unused


def led(term, looked):
    """The term led all the way, and the paper of the leads, in order."""
    told = term
    paper = []
    lead = first_lead(told)
    while lead is not None:
        told = led_by(told, looked, lead)
        paper.append(lead)
        lead = first_lead(told)
    return told, tuple(paper)


def first_lead(term):
    """The lead at the first place at which a rule goes; None where none does."""
    waiting = [((), term)]
    while waiting:
        place, part = waiting.pop()
        rule = rule_of(part)
        if rule is not None:
            return (place, rule)
        inner = [((*place, at), within) for at, within in enumerate(terms_in(part))]
        waiting.extend(inner[::-1])
    return None


def led_by(term, looked, lead):
    """What a term becomes by a lead, of anything; NoLead where it is none there."""
    if not isinstance(lead, tuple) or len(lead) != 2:
        raise NoLead("no place and rule")
    place, rule = lead
    if not isinstance(place, tuple) or not isinstance(rule, str):
        raise NoLead("no place, or no rule")
    if rule_of(part_at(term, place)) != rule:
        raise NoLead("this rule does not go here")
    return led_at(term, place, rule, {}, looked, Unused([*names_in(term), *looked]))


def part_at(term, place):
    """The part of a term at a place, a tuple of anything; NoLead where it is not there."""
    part = term
    for number in place:
        inner = terms_in(part)
        if not is_number(number) or number >= len(inner):
            raise NoLead("a place that is not there")
        part = inner[number]
    return part


def led_at(term, place, rule, names, looked, unused):
    """What a term becomes by a rule that goes at a place in it, where names have these kinds."""
    if not place:
        become = BECOMES[rule]
        return become(term, names, looked, unused)
    at = places_of(term)[place[0]]
    inner = led_at(term[at], place[1:], rule, names_within(term, at, names, looked), looked, unused)
    return (*term[:at], inner, *term[at + 1:])


def rule_of(term):
    """The rule that goes at a term; None where none does."""
    word = term[0]
    if word == "fold" and term[1][0] == "none":
        return "none"
    if word == "fold" and term[1][0] == "built" and is_straight(term[1][3], term[1][4], term[1][5]):
        return "short"
    if word == "built" and is_copying(term):
        return "copied"
    if word == "if" and term[1][0] == "truth":
        return "chosen"
    return None


def is_copying(built):
    """Whether a built puts on just the items of a list, in their order."""
    word, data, own, c, n, inner = built
    if inner[0] != "fold":
        return False
    fold, asked, begun, x, y, turn = inner
    if begun != ("name", n) or turn != ("call", ("call", ("name", c), ("name", x)), ("name", y)):
        return False
    return c not in (x, y) and is_without(asked, (c, n))


def shortened(term, names, looked, unused):
    """A fold of a built: what the fold does with each item is done where the built would put it on."""
    word, built, begun, x, y, turn = term
    made, data, own, c, n, inner = built
    end = kind_at(begun, names, (looked, ()))
    # c and n count in all of it, so that each own name which their kinds have is met, whether it is filled or not.
    renamed = new_names(own_names(inner), opens_in(end), unused)
    putting = ("fun", c, ("fun", data, ("fun", end, end)), ("fun", n, end, filled(inner, {own: end}, renamed)))
    return ("call", ("call", putting, ("fun", x, data, ("fun", y, end, turn))), begun)


def uncopied(term, names, looked, unused):
    """A built that copies a list is that list; names that the built bound have their kinds from around it now."""
    return settled_owns(term[5][1], names, looked, unused)


def begun_with(term, names, looked, unused):
    """A fold of no items is what it begins with."""
    return term[2]


def chosen_way(term, names, looked, unused):
    """An if of a truth is one of its ways."""
    return term[2] if term[1][1] else term[3]


BECOMES = {
    "short": shortened,
    "copied": uncopied,
    "none": begun_with,
    "chosen": chosen_way,
}
