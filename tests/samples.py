"""Kinds, terms, worths and wrong things that several tests use."""

import copy

NUM = ("num",)
TRUTH = ("truth",)
A = ("open", "a")
B = ("open", "b")
C = ("open", "c")


def pair(one, other):
    return ("pair", one, other)


def either(one, other):
    return ("either", one, other)


def many(kind):
    return ("list", kind)


def fun(*kinds):
    """The kind that leads from all but the last one to the last one."""
    kind = kinds[-1]
    for argument in reversed(kinds[:-1]):
        kind = ("fun", argument, kind)
    return kind


def name(x):
    return ("name", x)


def call(called, *handed):
    for term in handed:
        called = ("call", called, term)
    return called


def binding(term, **kinds):
    """The term within a function for each name, in this order."""
    for x in reversed(list(kinds)):
        term = ("fun", x, kinds[x], term)
    return term


def thing(x, number):
    return ("thing", x, number)


def items(*worths):
    """The list of these worths."""
    return ("list", worths)


def table(*rows):
    return ("table", rows)


def num(number):
    return ("num", number)


def plus(*terms):
    """The sum of terms, put together by halves, that many of them do not stand deep in one another."""
    if len(terms) == 1:
        return terms[0]
    half = len(terms) // 2
    return ("plus", plus(*terms[:half]), plus(*terms[half:]))


# A num whose run is too much: sixteen times as great a number at each turn.
TOO_MUCH = ("rounds", 30, num(1), "w", ("left", plus(*[name("w")] * 16), NUM))


def nested(thing, word, deep):
    for level in range(deep):
        thing = (word, thing)
    return thing


def wide(count):
    """A tuple of so many parts, none within another one."""
    return tuple(range(count - 1))


# Of anything: nothing here is a kind, a term or a worth of a pair, an either, a list or a table.
WRONG = (
    None, "", "a", "num", "open a", (), [], {}, ((),), ([],), (None,), ("",), ("a",), ("nums",), ("NUM",), (" num",),
    (("num",),), (["num"],), ({},), (0,), (1,), (True,), ("num", "num", "num", "num", "num", "num", "num"),
    ("open",), ("open", ""), ("open", "abcdefghi"), ("open", "A"), ("open", "a1"), ("open", "a b"), ("open", "a\n"),
    ("open", "a-"), ("open", 1), ("open", True), ("open", None), ("open", ("a",)), ("open", ["a"]), ("open", "a", "b"),
    ["num"], ["open", "a"], {"open": "a"}, {"num": None}, {0: "num"}, "n", -1, -(10 ** 39),
    ("pair",), ("either",), ("list",), ("fun",), ("fun", "a"), ("thing",), ("left",), ("table",), ("call",), ("told",),
    nested(None, "list", 28), nested(("nums",), "list", 28), nested([], "first", 28), wide(3000), list(wide(3000)),
    nested(wide(2900), "list", 28), {number: ("num",) for number in range(900)},
)


def replaced(thing, at, part):
    """The tuple with another part there."""
    return thing[:at] + (part,) + thing[at + 1:]


class Unchanged:
    """Asks twice, and tells whether what was handed in is as it was, and the same was told."""

    def __init__(self, case):
        self.case = case

    def ask(self, asked, *handed):
        before = copy.deepcopy(handed)
        one = asked(*handed)
        other = asked(*handed)
        self.case.assertEqual(repr(before), repr(handed))
        self.case.assertEqual(repr(one), repr(other))
        return one
