"""Closed terms made by a seeded source, with many places at which leads go, and many at which they nearly do."""

from tests.randomterms import Terms
from tests.samples import NUM, TRUTH, call, name
from tests.slow import open_names

PUTTERS = (("c", "n"), ("d", "m"), ("e", "q"), ("j", "l"), ("r", "s"))


class LeadTerms(Terms):
    """Makes terms with folds of builts, of nones, copying builts and ifs of truths among the rest."""

    def __init__(self, seed, looked=(), faults=True):
        super().__init__(seed, looked, faults)
        # Own names of builts around, whose c and n are not handed on, that they are not named where it is straight.
        self.inside = []

    def folded(self, kind, known, around, deep):
        if deep > 0 and self.random.random() < 0.6:
            known = known if self.random.random() < 0.5 else ("list", self.data(around, 1))
            return self.short(kind, known, around, deep)
        return super().folded(kind, known, around, deep)

    def short(self, kind, known, around, deep):
        x, y = self.random.sample(("x", "y", "z", "u", "v"), 2)
        turn = self.within(kind, around, deep - 1, **{x: known[1], y: kind})
        made = self.built(known, around, deep - 1)
        if self.random.random() < 0.1:
            made = ("none", known[1])
        return ("fold", made, self.term(kind, around, deep - 1), x, y, turn)

    def uses(self, kind, around, deep):
        ways = super().uses(kind, around, deep)
        if kind[0] != "fun":
            ways += [lambda: self.folded(kind, ("list", self.data(around, 1)), around, deep)] * 3
        ways.append(lambda: ("if", ("truth", self.random.random() < 0.5), self.term(kind, around, deep - 1),
                             self.term(kind, around, deep - 1)))
        return ways

    def built(self, kind, around, deep):
        own = self.own(kind, around)
        self.inside.append(own)
        inner = self.inner(own, kind, around, deep)
        self.inside.pop()
        return ("built", kind[1], own, *inner)

    def inner(self, own, kind, around, deep):
        """The names that a built binds, and what it is built by."""
        way = self.random.random()
        end = ("open", own)
        if way < 0.2 or len(self.inside) > len(PUTTERS):
            x, y = self.random.sample(("x", "y", "z", "u", "v"), 2)
            return x, y, self.within(end, around, deep - 1, **{x: ("fun", kind[1], ("fun", end, end)), y: end})
        c, n = PUTTERS[len(self.inside) - 1]
        if way < 0.5:
            return c, n, ("fold", self.term(kind, around, deep - 1), name(n), "x", "y", call(name(c), name("x"), name("y")))
        return c, n, self.straight(c, n, kind[1], around, min(deep, 3))

    def own(self, kind, around):
        taken = set(self.looked) | open_names(kind) | set(self.inside)
        for known in around.values():
            taken |= open_names(known)
        # Few names, so that they are met.
        return next(letter for letter in self.random.sample("opb", 3) + list("tvwz") if letter not in taken)

    def straight(self, c, n, item, around, deep):
        """A term that is straight by c and n, most of the time."""
        way = self.random.random()
        if deep <= 0 or way < 0.1:
            return name(n)
        if way < 0.6:
            return call(name(c), self.term(item, around, deep - 1), self.straight(c, n, item, around, deep - 1))
        if way < 0.7:
            ways = [self.straight(c, n, item, around, deep - 1) for side in range(2)]
            return ("if", self.term(TRUTH, around, deep - 1), *ways)
        if way < 0.8:
            sides = ("either", self.data(around, 1), NUM)
            x, y = "x", "y"
            left = self.straight(c, n, item, {**around, x: sides[1]}, deep - 1)
            right = self.straight(c, n, item, {**around, y: NUM}, deep - 1)
            return ("case", self.term(sides, around, deep - 1), x, left, y, right)
        # What came so far is not handed on, so that its name is one that nothing around has.
        x, y = "u", "t" * (1 + len(self.inside) + 2 * deep)
        known = ("list", self.data(around, 1))
        turn = self.straight(c, y, item, {**around, x: known[1]}, deep - 1)
        return ("fold", self.term(known, around, deep - 1), self.straight(c, n, item, around, deep - 1), x, y, turn)
