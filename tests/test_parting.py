import random
import unittest

from kindalone.alikechecks import alike_holds
from kindalone.checking import kind_of
from kindalone.errors import TooMany, TooMuch, Unbounded
from kindalone.parting import parted
from kindalone.running import run
from kindalone.tries import tries_of
from tests.samples import (A, B, NUM, TOO_MUCH, TRUTH, WRONG, Unchanged, binding, call, either, fun, items, many, name,
                           num, pair, replaced, table, thing)

A0, A1 = thing("a", 0), thing("a", 1)
B0 = thing("b", 0)
X, Y, Z, F = name("x"), name("y"), name("z"), name("f")
LOOK = ("a",)
FAULT = ("fault",)


def copied(turn, kind=A):
    return binding(("fold", X, ("none", kind), "x", "y", turn), x=many(kind))


SELF = binding(X, x=many(A))
COPY = copied(("more", X, Y))
NONE = binding(("none", A), x=many(A))
TWICE = copied(("more", X, ("more", X, Y)))
ALIKE = binding(("alike", X, Y), x=A, y=A)
NEVER = binding(("truth", False), x=A, y=A)
FIRST = binding(X, x=A, y=A)
SECOND = binding(Y, x=A, y=A)
FAULTING = binding(("if", ("alike", X, Y), ("fault", A), X), x=A, y=A)
GREAT = pair(pair(NUM, NUM), pair(NUM, NUM))
UNBOUNDED = fun(A, many(A))


class Parted(unittest.TestCase):
    def none(self, one, other, looked=(), bound=0):
        self.assertIsNone(Unchanged(self).ask(parted, one, other, looked, bound), (one, other))
        self.assertIsNone(parted(other, one, looked, bound))

    def told(self, one, other, looked=(), bound=0, tries=None):
        """What is told is one of these tries, a try, with both outcomes as they are run, unlike but for the steps."""
        tried, left, right = Unchanged(self).ask(parted, one, other, looked, bound)
        self.assertIn(tried, tries_of(kind_of(one, looked), looked, bound))
        if tries is not None:
            self.assertIn(tried, tries)
        self.assertEqual(left, run(one, tried))
        self.assertEqual(right, run(other, tried))
        self.assertNotEqual(left[:-1], right[:-1])
        return tried, left, right

    def refused(self, error, one, other, looked=(), bound=0):
        with self.assertRaises(error) as caught:
            parted(one, other, looked, bound)
        return caught.exception

    def test_alike_with_unlike_steps(self):
        for bound in range(4):
            self.none(SELF, COPY, (), bound)
            self.none(SELF, SELF, (), bound)
        self.none(FIRST, binding(call(binding(X, x=A), X), x=A, y=A))
        self.none(binding(("fault", A), x=A), binding(call(binding(("fault", A), y=A), X), x=A))

    def test_unlike_ones(self):
        self.assertEqual(parted(FIRST, SECOND, (), 0), ((A0, A1), ("worth", A0, 2), ("worth", A1, 2)))
        self.told(SELF, NONE, (), 1, [(items(A0),)])
        self.none(SELF, NONE, (), 0)
        self.told(SELF, TWICE, (), 3)
        self.none(SELF, TWICE, (), 0)
        self.told(binding(X, x=NUM), binding(("plus", X, X), x=NUM), (), 1, [(1,)])
        self.none(binding(X, x=NUM), binding(("plus", X, X), x=NUM), (), 0)

    def test_unlike_at_one_try_alone(self):
        self.told(ALIKE, NEVER, LOOK, 0, [(A0, A0)])
        three = binding(("if", ("less", num(2), X), num(0), X), x=NUM)
        self.none(three, binding(X, x=NUM), (), 2)
        self.told(three, binding(X, x=NUM), (), 3, [(3,)])
        asking = binding(("if", call(F, X), ("if", call(F, Y), X, Y), Y), f=fun(A, TRUTH), x=A, y=A)
        self.told(asking, binding(Y, f=fun(A, TRUTH), x=A, y=A), (), 0, [(table((A0, True), (A1, True)), A0, A1)])

    def test_looked_ones(self):
        self.told(binding(("if", ("alike", X, Y), X, Y), x=A, y=A), FIRST, LOOK, 0, [(A0, A1)])
        self.none(binding(("if", ("alike", X, Y), X, Y), x=A, y=A), SECOND, LOOK)
        self.told(FIRST, SECOND, LOOK, 0, [(A0, A1)])

    def test_faults(self):
        self.assertEqual(self.told(FAULTING, FIRST, LOOK, 0, [(A0, A0)])[1:], (("fault", 2), ("worth", A0, 2)))
        self.assertEqual(self.told(FIRST, FAULTING, LOOK, 0, [(A0, A0)])[1:], (("worth", A0, 2), ("fault", 2)))
        self.none(FAULTING, FAULTING, LOOK)
        longer = binding(("if", ("alike", X, Y), call(binding(("fault", A), x=A), X), X), x=A, y=A)
        self.none(FAULTING, longer, LOOK)

    def test_makers(self):
        once = binding(call(F, X), f=fun(A, A), x=A)
        twice = binding(call(F, call(F, X)), f=fun(A, A), x=A)
        self.assertEqual(self.told(once, twice)[0], (("maker", 0, 1), A0))
        self.told(once, binding(X, f=fun(A, A), x=A))
        self.none(once, binding(call(binding(call(F, X), x=A), X), f=fun(A, A), x=A))
        swapped = binding(call(F, Y, X), f=fun(A, A, B), x=A, y=A)
        self.told(binding(call(F, X, Y), f=fun(A, A, B), x=A, y=A), swapped)

    def test_deep_made_ones(self):
        grown = ("fold", Z, X, "u", "y", call(F, Y))
        for level in range(4):
            grown = ("fold", Z, grown, "u", "y", ("fold", Z, Y, "v", "x", call(F, X)))
        deep = binding(grown, f=fun(A, A), x=A, z=many(TRUTH))
        self.none(deep, deep, (), 2)

    def test_too_much_at_any_try(self):
        self.refused(TooMuch, binding(TOO_MUCH, x=NUM), binding(X, x=NUM))
        self.refused(TooMuch, binding(X, x=NUM), binding(TOO_MUCH, x=NUM))
        for number in range(4):
            # At one try too much, at the others unlike.
            at_one = ("if", ("less", X, num(number)), num(9), ("if", ("less", num(number), X), num(9), TOO_MUCH))
            self.refused(TooMuch, binding(at_one, x=NUM), binding(num(8), x=NUM), (), 3)
            self.refused(TooMuch, binding(num(8), x=NUM), binding(at_one, x=NUM), (), 3)
            if number:
                self.told(binding(at_one, x=NUM), binding(num(8), x=NUM), (), number - 1)

    def test_too_many(self):
        self.refused(TooMany, binding(num(1), x=GREAT), binding(num(1), x=GREAT), (), 3)
        # Ahead of TooMuch.
        self.refused(TooMany, binding(TOO_MUCH, x=GREAT), binding(num(1), x=GREAT), (), 3)

    def test_unbounded(self):
        one = binding(X, x=A, f=UNBOUNDED)
        self.assertEqual(self.refused(Unbounded, one, one).argument, 1)
        # Ahead of TooMany and of TooMuch.
        great = binding(TOO_MUCH, x=GREAT, y=A, f=UNBOUNDED)
        self.assertEqual(self.refused(Unbounded, great, great, (), 3).argument, 2)
        made = binding(X, f=fun(A, A), x=A)
        self.assertEqual(self.refused(Unbounded, made, made, LOOK).argument, 0)


class Papers(unittest.TestCase):
    ALL = (
        (SELF, COPY, (), 3),
        (FAULTING, FAULTING, LOOK, 0),
        (ALIKE, binding(("alike", Y, X), x=A, y=A), LOOK, 0),
        (binding(("plus", X, X), x=NUM), binding(call(binding(("plus", X, X), x=NUM), X), x=NUM), (), 3),
        (binding(call(F, X), f=fun(A, A), x=A), binding(call(F, X), f=fun(A, A), x=A), (), 0),
        (binding(call(F, X), f=fun(A, TRUTH), x=A), binding(("if", call(F, X), ("truth", True), ("truth", False)),
                                                            f=fun(A, TRUTH), x=A), (), 0),
        (binding(X, x=either(A, pair(B, TRUTH))), binding(X, x=either(A, pair(B, TRUTH))), ("b",), 0),
    )

    def check(self, held, asked, thing):
        self.assertIs(Unchanged(self).ask(alike_holds, *asked, thing), held, (asked, thing))

    def paper(self, one, other, looked, bound):
        return tuple((tried, run(one, tried)[:-1]) for tried in tries_of(kind_of(one, looked), looked, bound))

    def test_papers_in_any_order(self):
        for asked in self.ALL:
            paper = self.paper(*asked)
            self.check(True, asked, paper)
            self.check(True, asked, paper[::-1])
            self.check(True, asked, paper[1:] + paper[:1])
            for seed in range(3):
                rows = list(paper)
                random.Random(seed).shuffle(rows)
                self.check(True, asked, tuple(rows))

    def test_one_written_out(self):
        yes = ((A0, A0), FAULT)
        no = ((A0, A1), ("worth", A0))
        self.check(True, self.ALL[1], (yes, no))
        self.check(True, self.ALL[1], (no, yes))
        for thing in ((yes,), (no,), (), (yes, yes), (no, no), (yes, no, yes), (yes, no, no), (yes, no, ()), [yes, no],
                      (list(yes), no), (yes, list(no)), yes, no, ((yes, no),)):
            self.check(False, self.ALL[1], thing)
        for wrong in (((A0, A0), ("fault", 2)), ((A0, A0), "fault"), ((A0, A0), ["fault"]), ((A0, A0), ("worth", A0)),
                      ((A0, A0),), ((A0, A0), FAULT, 2), ([A0, A0], FAULT), ((A0, A0), None), ((A1, A1), FAULT),
                      ((A1, A0), FAULT), ((A0,), FAULT), ((A0, A0, A0), FAULT), FAULT, (A0, A0)):
            self.check(False, self.ALL[1], (wrong, no))
        for wrong in (((A0, A1), ("worth", A0, 2)), ((A0, A1), ("worth", A1)), ((A0, A1), ["worth", A0]), ((A0, A1), A0),
                      ((A0, A1), FAULT), ((A1, A0), ("worth", A1)), ((A0, ("thing", "a", True)), ("worth", A0)),
                      ((A0, A1), ("worth", ("thing", "a", False))), ((A0, A1), ("worth", list(A0)))):
            self.check(False, self.ALL[1], (yes, wrong))

    def test_a_try_left_out_twice_or_one_that_is_none(self):
        for asked in self.ALL:
            paper = self.paper(*asked)
            for at, row in enumerate(paper):
                self.check(False, asked, paper[:at] + paper[at + 1:])
                self.check(False, asked, paper + (row,))
                other = (at + 1) % len(paper)
                if other != at:
                    self.check(False, asked, replaced(paper, other, row))
                self.check(False, asked, paper + (((), row[1]),))
                self.check(False, asked, replaced(paper, at, ((*row[0], A0), row[1])))
                self.check(False, asked, replaced(paper, at, (row[0][::-1] + (A0,), row[1])))

    def test_outcomes_otherwise(self):
        for asked in self.ALL:
            paper = self.paper(*asked)
            for at, (tried, outcome) in enumerate(paper):
                wrongs = [("worth", None), outcome + (1,), list(outcome), run(asked[0], tried), (), None, outcome[1:],
                          ("worth", outcome)]
                if outcome != FAULT:
                    told = outcome[1]
                    wrongs += [FAULT, ("worth", (told,)), ("worth", [told]), ("worths", told)]
                    if isinstance(told, int):
                        wrongs += [("worth", not told), ("worth", int(told) if isinstance(told, bool) else told + 1)]
                for wrong in wrongs:
                    self.check(False, asked, replaced(paper, at, (tried, wrong)))

    def test_truths_in_place_of_numbers(self):
        asked = (binding(X, x=NUM), binding(X, x=NUM), (), 1)
        self.check(True, asked, (((1,), ("worth", 1)), ((0,), ("worth", 0))))
        self.check(False, asked, (((1,), ("worth", True)), ((0,), ("worth", 0))))
        self.check(False, asked, (((True,), ("worth", 1)), ((0,), ("worth", 0))))
        self.check(False, asked, (((1,), ("worth", 1)), ((False,), ("worth", False))))
        asked = (binding(X, x=TRUTH), binding(X, x=TRUTH), (), 1)
        self.check(True, asked, (((True,), ("worth", True)), ((False,), ("worth", False))))
        self.check(False, asked, (((1,), ("worth", True)), ((False,), ("worth", False))))

    def test_anything(self):
        for asked in self.ALL:
            paper = self.paper(*asked)
            for thing in WRONG:
                self.check(False, asked, thing)
                self.check(False, asked, replaced(paper, 0, thing))
                self.check(False, asked, replaced(paper, 0, (paper[0][0], thing)))
                # (0,) is a try of a number.
                self.check(repr(thing) == repr(paper[0][0]), asked, replaced(paper, 0, (thing, paper[0][1])))

    def test_unlike_ones_have_no_paper(self):
        for one, other, looked, bound in ((FIRST, SECOND, (), 0), (ALIKE, NEVER, LOOK, 0), (FAULTING, FIRST, LOOK, 0),
                                          (SELF, NONE, (), 1)):
            asked = (one, other, looked, bound)
            for paper in (self.paper(*asked), self.paper(other, one, looked, bound), (), None):
                self.check(False, asked, paper)
                self.check(False, (other, one, looked, bound), paper)

    def test_where_a_refusal_comes(self):
        much = binding(TOO_MUCH, x=NUM)
        great = binding(num(1), x=GREAT)
        unbounded = binding(X, x=A, f=UNBOUNDED)
        for thing in ((), None, (((0,), ("worth", 1)),), (((0,), FAULT),), (((A0, ("maker", 1, 1)), ("worth", A0)),)):
            self.check(False, (much, much, (), 0), thing)
            self.check(False, (binding(num(1), x=NUM), much, (), 0), thing)
            self.check(False, (great, great, (), 3), thing)
            self.check(False, (unbounded, unbounded, (), 0), thing)

    def test_great_papers(self):
        one = binding(X, x=pair(pair(NUM, NUM), pair(NUM, TRUTH)))
        asked = (one, one, (), 3)
        paper = self.paper(*asked)
        self.assertEqual(len(paper), 128)
        self.check(True, asked, paper)
        self.check(True, asked, paper[::-1])
        self.check(False, asked, paper[:-1])

    def test_a_great_paper_in_another_order(self):
        added = ("plus", X, ("plus", Y, Z))
        one = binding(added, x=NUM, y=NUM, z=NUM, w=TRUTH)
        asked = (one, one, (), 3)
        paper = self.paper(*asked)[::-1]
        self.assertEqual(len(paper), 128)
        self.check(True, asked, paper)
        for at in (0, 1, 63, 64, 126, 127):
            tried, outcome = paper[at]
            self.check(False, asked, paper[:at] + paper[at + 1:])
            self.check(False, asked, paper + (paper[at],))
            # Twice, in the stead of another one.
            self.check(False, asked, replaced(paper, (at + 5) % 128, paper[at]))
            self.check(False, asked, replaced(paper, at, (tried, ("worth", outcome[1] + 1))))
            self.check(False, asked, replaced(paper, at, ((*tried[:3], int(tried[3])), outcome)))
            self.check(False, asked, replaced(paper, at, (list(tried), outcome)))
            self.check(False, asked, replaced(paper, at, [tried, outcome]))
        # A truth in the place of a number, in a try and in what is told.
        where = [row[0] for row in paper].index((1, 0, 0, False))
        self.check(True, asked, replaced(paper, where, ((1, 0, 0, False), ("worth", 1))))
        self.check(False, asked, replaced(paper, where, ((True, 0, 0, False), ("worth", 1))))
        self.check(False, asked, replaced(paper, where, ((1, False, 0, False), ("worth", 1))))
        self.check(False, asked, replaced(paper, where, ((1, 0, 0, False), ("worth", True))))
        self.check(False, asked, replaced(paper, where, ((1, 0, 0, 0), ("worth", 1))))
        self.check(False, asked, list(paper))
        self.check(False, (one, binding(("plus", X, Y), x=NUM, y=NUM, z=NUM, w=TRUTH), (), 3), paper)

    def test_what_is_written_as_a_try_is_none(self):
        asked = (binding(X, x=NUM), binding(X, x=NUM), (), 0)
        self.check(True, asked, (((0,), ("worth", 0)),))
        for tried in ("(0,)", "'(0,)'", ("0",), [0], {0}, {0: 0}, (0, None)):
            self.check(False, asked, ((tried, ("worth", 0)),))

    def test_what_parted_tells_is_no_paper(self):
        for asked in self.ALL:
            self.check(False, asked, parted(*asked))
        self.check(False, (FIRST, SECOND, (), 0), parted(FIRST, SECOND, (), 0))
        self.assertEqual(tries_of(fun(B, A, A), (), 0), ((B0, A0),))


if __name__ == "__main__":
    unittest.main()
