"""Findings: what was found, by whomever, looked at again.

Each word has what tells whether the parts behind it, of anything, make a finding that holds. A refusal that comes in
between tells that they do not.
"""

from kindalone.alikechecks import alike_holds
from kindalone.checking import kind_of
from kindalone.errors import NoKind, TooMuch
from kindalone.handing import are_arguments
from kindalone.kinds import arguments_of, is_walked, leads, opens_in, result_of
from kindalone.leadchecks import leads_holds
from kindalone.outcomes import same_but_steps, tied_outcomes
from kindalone.plain import is_name, is_number, is_rising, is_same
from kindalone.running import run
from kindalone.settings import is_setting, left_sizes, right_sizes
from kindalone.showchecks import paper_holds
from kindalone.showing import both_outcomes
from kindalone.ties import saying_of, tied
from kindalone.worths import is_worth

# How many parts stand behind each word of a finding.
MANY_PARTS = {
    "kind": 3,
    "holds": 5,
    "fails": 6,
    "alike": 5,
    "parted": 6,
    "led": 4,
}


def finding_holds(thing):
    """Whether thing, of anything, is a finding that holds."""
    if not isinstance(thing, tuple) or not thing or not isinstance(thing[0], str) or thing[0] not in MANY_PARTS:
        return False
    if len(thing) != MANY_PARTS[thing[0]] + 1:
        return False
    is_so = FINDINGS[thing[0]]
    try:
        return is_so(thing[1:])
    except (NoKind, TooMuch):
        return False


def found_kind(term, looked):
    """The kind of a term, of anything, by looked names, of anything; NoKind where it has none."""
    if not isinstance(looked, tuple) or not all(is_name(name) for name in looked) or not is_rising(looked):
        raise NoKind("no looked names")
    return kind_of(term, looked)


def walked_kind(term, looked):
    """The walked kind of a function, of anything; NoKind where it has none."""
    kind = found_kind(term, looked)
    if not is_walked(kind):
        raise NoKind("no walked kind")
    return kind


def common_kind(one, other, looked):
    """The kind of two terms, of anything; NoKind where they have not the same."""
    kind = found_kind(one, looked)
    if kind != found_kind(other, looked):
        raise NoKind("two kinds")
    return kind


def is_of_names(setting, kind):
    """Whether setting, of anything, is a setting of all open names of a kind."""
    if not is_setting(setting):
        return False
    names = [row[0] for row in setting]
    return all(name in names for name in opens_in(kind))


def is_so_kind(parts):
    """Whether a term has a kind."""
    term, looked, kind = parts
    return is_same(found_kind(term, looked), kind)


def is_so_holds(parts):
    """Whether a function holds at all cases, by a paper."""
    term, looked, setting, bound, paper = parts
    if not is_of_names(setting, walked_kind(term, looked)) or not is_number(bound):
        return False
    return paper_holds(term, looked, setting, bound, paper)


def is_so_fails(parts):
    """Whether a function's outcomes, these, are not tied at tied arguments."""
    term, looked, setting, case, left, right = parts
    kind = walked_kind(term, looked)
    if not is_of_names(setting, kind) or not are_tied(kind, setting, case):
        return False
    told = both_outcomes(term, case)
    return is_same(told, (left, right)) and not tied_outcomes(saying_of(result_of(kind)), setting, *told)


def are_tied(kind, setting, case):
    """Whether case, of anything, has two tied worths for each argument of a kind."""
    arguments = arguments_of(kind)
    if not isinstance(case, tuple) or len(case) != len(arguments):
        return False
    return all(is_tied_pair(argument, setting, both) for argument, both in zip(arguments, case))


def is_tied_pair(argument, setting, both):
    """Whether both, of anything, are a left and a right worth of an argument, which are tied."""
    if not isinstance(both, tuple) or len(both) != 2:
        return False
    left, right = both
    if not is_worth(argument, left_sizes(setting), left) or not is_worth(argument, right_sizes(setting), right):
        return False
    return tied(argument, setting, left, right)


def is_so_alike(parts):
    """Whether two functions are alike at all tries, by a paper."""
    one, other, looked, bound, paper = parts
    if not is_walked(common_kind(one, other, looked)) or not is_number(bound):
        return False
    return alike_holds(one, other, looked, bound, paper)


def is_so_parted(parts):
    """Whether the outcomes of two terms, these, are unlike at arguments."""
    one, other, looked, args, left, right = parts
    kind = common_kind(one, other, looked)
    if leads(kind) and not is_walked(kind):
        return False
    if not isinstance(args, tuple) or not are_arguments(kind, args, True):
        return False
    told = (run(one, args), run(other, args))
    return is_same(told, (left, right)) and not same_but_steps(*told)


def is_so_led(parts):
    """Whether one term is led to another one, by a paper."""
    one, other, looked, paper = parts
    common_kind(one, other, looked)
    return leads_holds(one, other, looked, paper)


FINDINGS = {
    "kind": is_so_kind,
    "holds": is_so_holds,
    "fails": is_so_fails,
    "alike": is_so_alike,
    "parted": is_so_parted,
    "led": is_so_led,
}
