"""Which worths are tied by a setting: the saying of a kind, and what it asks."""

from kindalone.kinds import opens_in
from kindalone.limits import worths_within
from kindalone.plain import is_same
from kindalone.settings import pairs_of
from kindalone.worths import FAULT

SAME = ("same",)
# The word of a kind's saying, where the kind has an open name.
SAYINGS = {
    "pair": "both",
    "either": "sides",
    "list": "items",
    "fun": "leads",
}


def tied(kind, setting, one, other):
    """Whether two worths of a data or handed kind are tied."""
    return tied_by(saying_of(kind), setting, one, other)


def saying_of(kind):
    """The saying of a data, handed or walked kind."""
    if not opens_in(kind):
        return SAME
    if kind[0] == "open":
        return ("tied", kind[1])
    return (SAYINGS[kind[0]], *[saying_of(part) for part in kind[1:]])


def tied_by(saying, setting, one, other):
    """Whether two worths are tied by a saying."""
    rule = RULES[saying[0]]
    return rule(saying, setting, one, other)


def same_ones(saying, setting, one, other):
    """Without an open name just the same are tied."""
    return is_same(one, other)


def tied_things(saying, setting, one, other):
    """Things are tied by their name's pairs, made ones by what they are made of."""
    waiting = [(one, other)]
    while waiting:
        left, right = waiting.pop()
        if not tied_ahead(setting, left, right):
            return False
        waiting.extend(list(zip(worths_within(left), worths_within(right))))
    return True


def tied_ahead(setting, left, right):
    """Whether two worths may be tied, but for the worths within, of which there are as many.

    What a made one is made of has no kind here, so that the worths themselves tell how they are tied.
    """
    if not isinstance(left, tuple):
        return is_same(left, right)
    if left[0] != right[0] or len(worths_within(left)) != len(worths_within(right)):
        return False
    if left[0] == "thing":
        return left[1] == right[1] and (left[2], right[2]) in pairs_of(setting, left[1])
    return left[0] != "made" or left[1] == right[1]


def tied_pairs(saying, setting, one, other):
    """Both parts are tied."""
    word, first, second = saying
    return tied_by(first, setting, one[1], other[1]) and tied_by(second, setting, one[2], other[2])


def tied_sides(saying, setting, one, other):
    """What both have at one side is tied."""
    if one[0] != other[0]:
        return False
    side = saying[1] if one[0] == "left" else saying[2]
    return tied_by(side, setting, one[1], other[1])


def tied_items(saying, setting, one, other):
    """As many items are tied one by one."""
    if len(one[1]) != len(other[1]):
        return False
    return all(tied_by(saying[1], setting, left, right) for left, right in zip(one[1], other[1]))


def tied_functions(saying, setting, one, other):
    """Tables tell tied worths of tied ones; a maker is tied with itself alone."""
    if one[0] == "maker" or other[0] == "maker":
        return is_same(one, other)
    return tied_tables(saying, setting, one[1], other[1])


def tied_tables(saying, setting, lefts, rights):
    """Whether what the rows of two tables tell is tied, where what they are asked is."""
    word, asked, told = saying
    left_answers, left_numbers = numbered([answer for worth, answer in lefts])
    right_answers, right_numbers = numbered([answer for worth, answer in rights])
    # Tables of many rows mostly tell the same: two answers that have met are not held against each other again.
    met = set()
    for left, at_left in zip(lefts, left_numbers):
        for right, at_right in zip(rights, right_numbers):
            if (at_left, at_right) not in met and tied_by(asked, setting, left[0], right[0]):
                met.add((at_left, at_right))
    pairs = sorted(met)
    return all(tied_answers(told, setting, left_answers[one], right_answers[other]) for one, other in pairs)


def numbered(answers):
    """The answers that are unlike, and for each answer its number among these."""
    unlike = []
    numbers = []
    for answer in answers:
        if answer not in unlike:
            unlike.append(answer)
        numbers.append(unlike.index(answer))
    return unlike, numbers


def tied_answers(saying, setting, left, right):
    """Whether both are faults, or tied worths."""
    if FAULT in (left, right):
        return left == right
    return tied_by(saying, setting, left, right)


RULES = {
    "same": same_ones,
    "tied": tied_things,
    "both": tied_pairs,
    "sides": tied_sides,
    "items": tied_items,
    "leads": tied_functions,
}
