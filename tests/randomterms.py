"""Closed functions of a kind, made by a seeded source: many shapes, each of the right kind."""

import random

from tests.samples import NUM, TRUTH, call, name
from tests.slow import open_names

NAMES = ("x", "y", "z", "u", "v", "f", "g", "h", "k")


def parts_of_term(term):
    """The parts of a term: tuples that begin with a word of a term, and are none of a kind's."""
    count = 0
    deep = 0
    waiting = [(term, 1)]
    while waiting:
        part, level = waiting.pop()
        count += 1
        deep = max(deep, level)
        waiting.extend((inner, level + 1) for inner in terms_in(part))
    return count, deep


def terms_in(term):
    places = {"fun": (3,), "if": (1, 2, 3), "case": (1, 3, 5), "fold": (1, 2, 5), "built": (5,), "rounds": (2, 4),
              "left": (1,), "right": (2,), "first": (1,), "second": (1,), "call": (1, 2), "plus": (1, 2), "less": (1, 2),
              "pair": (1, 2), "more": (1, 2), "alike": (1, 2)}
    return [term[at] for at in places.get(term[0], ())]


class Terms:
    """Makes terms; looked are the names that they may look at."""

    def __init__(self, seed, looked=(), faults=True):
        self.random = random.Random(seed)
        self.looked = looked
        self.faults = faults

    def function(self, kind, deep=5):
        """A closed function of a kind, within the document's bounds."""
        while True:
            term = self.term(kind, {}, deep)
            parts, levels = parts_of_term(term)
            if parts <= 200 and levels <= 20:
                return term

    def pick(self, things):
        return things[self.random.randrange(len(things))]

    def data(self, around, deep=2):
        """A data kind, of the open names around."""
        plain = [NUM, TRUTH] + [kind for kind in around.values() if kind[0] != "fun"] * 2
        if deep == 0 or self.random.random() < 0.6:
            return self.pick(plain)
        word = self.pick(["pair", "either", "list"])
        if word == "list":
            return (word, self.data(around, deep - 1))
        return (word, self.data(around, deep - 1), self.data(around, deep - 1))

    def within(self, kind, around, deep, **bound):
        return self.term(kind, {**around, **bound}, deep)

    def term(self, kind, around, deep):
        """A term of a kind, where names have these kinds around it."""
        ways = [lambda x=x: name(x) for x, known in around.items() if known == kind] * 3
        if deep > 0:
            ways += self.calls(kind, around, deep)
            ways += self.uses(kind, around, deep)
            ways += [self.maker(kind, around, deep)] * 4
        if not ways or kind[0] != "open" and self.random.random() < 0.1:
            return self.least(kind, around, deep)
        return self.pick(ways)()

    def least(self, kind, around, deep):
        """A term that needs no name."""
        word = kind[0]
        if word == "fun":
            x = self.pick(NAMES)
            return ("fun", x, kind[1], self.within(kind[2], around, deep, **{x: kind[1]}))
        if word == "num":
            return ("num", self.random.randrange(4))
        if word == "truth":
            return ("truth", self.random.random() < 0.5)
        if word == "list":
            return ("none", kind[1])
        if word == "either" and self.random.random() < 0.4:
            return ("left", self.term(kind[1], around, deep - 1), kind[2])
        if word == "either":
            return ("right", kind[1], self.term(kind[2], around, deep - 1))
        if word == "pair":
            return ("pair", self.term(kind[1], around, deep - 1), self.term(kind[2], around, deep - 1))
        return ("fault", kind)

    def maker(self, kind, around, deep):
        """What makes a term by the kind's own words."""
        def made():
            word = kind[0]
            if self.faults and word != "fun" and self.random.random() < 0.01:
                return ("fault", kind)
            if word == "list" and self.random.random() < 0.4:
                return self.built(kind, around, deep)
            if word == "list":
                return ("more", self.term(kind[1], around, deep - 1), self.term(kind, around, deep - 1))
            if word == "num":
                return ("plus", self.term(kind, around, deep - 1), self.term(kind, around, deep - 1))
            if word == "truth":
                return self.truth(around, deep)
            if word == "open":
                return self.let(kind, around, deep)
            return self.least(kind, around, deep)
        return made

    def truth(self, around, deep):
        seen = [kind for kind in around.values() if kind[0] == "open" and kind[1] in self.looked]
        if seen and self.random.random() < 0.8:
            kind = self.pick(seen)
            return ("alike", self.term(kind, around, deep - 1), self.term(kind, around, deep - 1))
        return ("less", self.term(NUM, around, deep - 1), self.term(NUM, around, deep - 1))

    def built(self, kind, around, deep):
        taken = set(self.looked) | open_names(kind)
        for known in around.values():
            taken |= open_names(known)
        own = next(letter for letter in "opqrstuvw" if letter not in taken)
        end = ("open", own)
        x, y = self.random.sample(NAMES, 2)
        bound = {x: ("fun", kind[1], ("fun", end, end)), y: end}
        return ("built", kind[1], own, x, y, self.within(end, around, deep - 1, **bound))

    def calls(self, kind, around, deep):
        """Calls of the functions around that lead to the kind."""
        ways = []
        for x, known in around.items():
            handed = []
            rest = known
            while rest[0] == "fun":
                handed.append(rest[1])
                rest = rest[2]
                if rest == kind:
                    ways += [lambda x=x, kinds=tuple(handed): self.called(x, kinds, around, deep)] * 3
        return ways

    def called(self, x, kinds, around, deep):
        return call(name(x), *[self.term(kind, around, deep - 1) for kind in kinds])

    def let(self, kind, around, deep):
        x = self.pick(NAMES)
        given = self.data(around)
        if self.random.random() < 0.3:
            given = ("fun", given, self.data(around, 1))
        inner = self.within(kind, around, deep - 1, **{x: given})
        return call(("fun", x, given, inner), self.term(given, around, deep - 1))

    def uses(self, kind, around, deep):
        """Terms that use a truth, an either, a pair, a list, rounds on their way to the kind."""
        ways = [lambda: self.let(kind, around, deep), lambda: self.choice(kind, around, deep)]
        for known in around.values():
            if known[0] == "pair" and kind in known[1:]:
                ways += [lambda known=known: self.half(kind, known, around, deep)] * 2
            if known[0] == "either":
                ways += [lambda known=known: self.sides(kind, known, around, deep)] * 2
            if known[0] == "list" and kind[0] != "fun":
                ways += [lambda known=known: self.folded(kind, known, around, deep)] * 3
        if kind[0] != "fun" and self.random.random() < 0.3:
            ways.append(lambda: self.rounds(kind, around, deep))
        return ways

    def choice(self, kind, around, deep):
        ways = [self.term(kind, around, deep - 1) for way in range(2)]
        return ("if", self.term(TRUTH, around, deep - 1), *ways)

    def half(self, kind, known, around, deep):
        word = "first" if known[1] == kind and (known[2] != kind or self.random.random() < 0.5) else "second"
        return (word, self.term(known, around, deep - 1))

    def sides(self, kind, known, around, deep):
        x, y = self.pick(NAMES), self.pick(NAMES)
        left = self.within(kind, around, deep - 1, **{x: known[1]})
        right = self.within(kind, around, deep - 1, **{y: known[2]})
        return ("case", self.term(known, around, deep - 1), x, left, y, right)

    def folded(self, kind, known, around, deep):
        x, y = self.random.sample(NAMES, 2)
        turn = self.within(kind, around, deep - 1, **{x: known[1], y: kind})
        return ("fold", self.term(known, around, deep - 1), self.term(kind, around, deep - 1), x, y, turn)

    def rounds(self, kind, around, deep):
        given = self.data(around, 1)
        x = self.pick(NAMES)
        turn = self.within(("either", given, kind), around, deep - 1, **{x: given})
        return ("rounds", self.random.randrange(1, 6), self.term(given, around, deep - 1), x, turn)
