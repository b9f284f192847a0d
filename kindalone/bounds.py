"""The bounds of what is handed in, for those who ask them of it."""

from kindalone.kinds import arguments_of, opens_in, parts_of
from kindalone.limits import GREATEST
from kindalone.terms import all_parts, kinds_here
from kindalone.wholes import measured

MOST_KIND_PARTS = 60
MOST_ARGUMENTS = 4
MOST_OPENS = 4
MOST_TERM_PARTS = 200
MOST_TERM_DEEP = 20
GREATEST_IN_TERMS = 10 ** 6
MOST_SETTING_NAMES = 4
MOST_THINGS = 3
MOST_BOUND = 3
MOST_ITEMS = 12
MOST_FUNCTIONS = 16
MOST_DEEDS = 60


def is_term_within(term):
    """Whether a term, and each kind that is written in it, is within the bounds."""
    # A told one is but a part here, whatever stands behind its name.
    many, deep = measured(term, {})
    if many > MOST_TERM_PARTS or deep > MOST_TERM_DEEP:
        return False
    parts = all_parts(term)
    if any(part[0] == "num" and part[1] > GREATEST_IN_TERMS for part in parts):
        return False
    return all(is_kind_within(kind) for part in parts for kind in kinds_here(part))


def is_kind_within(kind):
    """Whether a kind is within the bounds."""
    if len(parts_of(kind)) > MOST_KIND_PARTS or len(opens_in(kind)) > MOST_OPENS:
        return False
    return len(arguments_of(kind)) <= MOST_ARGUMENTS


def is_setting_within(setting):
    """Whether a setting is within the bounds."""
    if len(setting) > MOST_SETTING_NAMES:
        return False
    return all(lefts <= MOST_THINGS and rights <= MOST_THINGS for name, lefts, rights, pairs in setting)


def is_worth_within(worth):
    """Whether each list and number in a worth, in what tables tell too, is within the bounds."""
    waiting = [worth]
    while waiting:
        part = waiting.pop()
        if not isinstance(part, tuple):
            if part > GREATEST:
                return False
        elif part[0] == "list" and len(part[1]) > MOST_ITEMS:
            return False
        else:
            waiting.extend(inner_of(part))
    return True


def inner_of(worth):
    """The worths that stand directly in a worth, or are told by it."""
    word = worth[0]
    if word == "table":
        return [told for asked, told in worth[1]]
    if word in ("thing", "maker", "fault"):
        return []
    return worth[-1] if word in ("list", "made") else worth[1:]
