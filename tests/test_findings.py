import unittest

from kindalone.cases import cases_of
from kindalone.checking import kind_of
from kindalone.errors import KindError
from kindalone.findings import finding_holds
from kindalone.leads import led
from kindalone.looks import leak_of
from kindalone.parting import parted
from kindalone.running import run
from kindalone.showing import shown
from kindalone.tries import tries_of
from tests.randomleads import LeadTerms
from tests.randomterms import Terms
from tests.samples import (A, B, NUM, TOO_MUCH, TRUTH, WRONG, Unchanged, binding, call, either, fun, items, many, name, nested,
                           num, pair, replaced, table, thing)
from tests.test_leads import CHOSEN, SHORT, shorter, TWO

A0, A1, A2 = thing("a", 0), thing("a", 1), thing("a", 2)
B0 = thing("b", 0)
X, Y, Z, F = name("x"), name("y"), name("z"), name("f")
LOOK = ("a",)
FAULT = ("fault",)
LOOSE = (("a", 2, 1, ((0, 0), (1, 0))),)
CROSSED = (("a", 2, 2, ((0, 1), (1, 0))),)
ALIKE = binding(("alike", X, Y), x=A, y=A)
FIRST = binding(X, x=A, y=A)
SECOND = binding(Y, x=A, y=A)
ASKING = binding(("if", call(F, X), X, Y), f=fun(A, TRUTH), x=A, y=A)
MAKING = binding(call(F, X), f=fun(A, A), x=A)
TWICE = binding(call(F, call(F, X)), f=fun(A, A), x=A)
COPIED = binding(("fold", X, ("none", A), "x", "y", ("more", X, Y)), x=many(A))
SELF = binding(X, x=many(A))
GREAT = binding(num(1), x=pair(NUM, pair(NUM, pair(NUM, NUM))))
MUCH = binding(TOO_MUCH, x=NUM)


def holds(term, looked, setting, bound):
    word, paper = shown(term, looked, setting, bound)
    return ("holds", term, looked, setting, bound, paper)


def fails(term, looked, setting, case):
    return ("fails", term, looked, setting, case, run(term, tuple(two[0] for two in case)),
            run(term, tuple(two[1] for two in case)))


def alike(one, other, looked, bound):
    tries = tries_of(kind_of(one, looked), looked, bound)
    return ("alike", one, other, looked, bound, tuple((tried, run(one, tried)[:-1]) for tried in tries))


def unlike(one, other, looked, args):
    return ("parted", one, other, looked, args, run(one, args), run(other, args))


KIND = ("kind", FIRST, (), fun(A, A, A))
HOLDS = holds(COPIED, (), LOOSE, 2)
FAILS = fails(ALIKE, LOOK, LOOSE, ((A0, A0), (A1, A0)))
SAME = alike(SELF, COPIED, (), 3)
PARTED = unlike(FIRST, SECOND, (), (A0, A1))
LED = ("led", ("pair", SHORT, CHOSEN), ("pair", shorter(TWO), num(1)), (), (((0,), "short"), ((1,), "chosen")))
EACH = (KIND, HOLDS, FAILS, SAME, PARTED, LED)


def is_looked(thing):
    return isinstance(thing, tuple) and all(isinstance(x, str) and x.isalpha() and x.islower() for x in thing)


class Findings(unittest.TestCase):
    def check(self, held, thing):
        self.assertIs(Unchanged(self).ask(finding_holds, thing), held, thing)


class Forms(Findings):
    def test_each_word(self):
        for finding in EACH:
            self.check(True, finding)

    def test_parts_left_out_more_or_exchanged(self):
        for finding in EACH:
            self.check(False, list(finding))
            self.check(False, finding + ((),))
            self.check(False, finding[1:])
            self.check(False, (finding,))
            for at in range(len(finding)):
                self.check(False, finding[:at] + finding[at + 1:])
                for other in range(at):
                    exchanged = replaced(replaced(finding, at, finding[other]), other, finding[at])
                    # Two functions that are alike are so in both orders, and so on.
                    if repr(exchanged) != repr(finding) and {at, other} != {1, 2}:
                        self.check(False, exchanged)
        for one in EACH:
            for other in EACH:
                if one[0] != other[0]:
                    self.check(False, (other[0], *one[1:]))

    def test_anything(self):
        for wrong in WRONG:
            self.check(False, wrong)
            for finding in EACH:
                for at in range(len(finding)):
                    # Looked names that no term needs, and none in their stead, may be let by: they are asked below.
                    if not is_looked(wrong) and repr(wrong) != repr(finding[at]):
                        self.check(False, replaced(finding, at, wrong))

    def test_words(self):
        for word in ("Kind", "kinds", "", "tell", "tied", None, 0, ("kind",), ["kind"], b"kind"):
            for finding in EACH:
                self.check(False, (word, *finding[1:]))

    def test_great_things(self):
        self.check(False, nested(KIND, "kind", 20))
        self.check(False, ("kind", nested(num(1), "first", 25), (), NUM))
        self.check(False, ("kind", nested(num(1), "second", 28), (), NUM))
        deep = num(1)
        for level in range(25):
            deep = ("plus", deep, num(1))
        self.check(True, ("kind", deep, (), NUM))
        self.check(True, ("kind", ("num", 10 ** 39), (), NUM))
        wide = num(1)
        for level in range(8):
            wide = ("plus", wide, wide)
        self.check(True, ("kind", wide, (), NUM))

    def test_looked_names(self):
        for finding in EACH:
            at = 2 if finding[0] in ("kind", "holds", "fails") else 3
            for looked in (("b", "a"), ("a", "a"), ["a"], ("A",), ("",), ("abcdefghi",), (1,), (None,), (("a",),), "a", None,
                           {"a": 1}, ("a", "b", "a"), ([],), ("a", 1)):
                self.check(False, replaced(finding, at, looked))
        # More names than are looked at.
        for finding in (KIND, HOLDS, FAILS, PARTED, LED):
            self.check(True, replaced(finding, 3 if finding[0] in ("parted", "led") else 2, ("a", "zz")))
        self.check(False, replaced(SAME, 3, ("a",)))
        self.check(True, ("kind", ALIKE, ("a", "b"), fun(A, A, TRUTH)))
        self.check(False, ("kind", ALIKE, ("b",), fun(A, A, TRUTH)))


class Kinds(Findings):
    def test_kinds(self):
        for term, looked, kind in ((num(1), (), NUM), (SELF, (), fun(many(A), many(A))), (ALIKE, LOOK, fun(A, A, TRUTH)),
                                   (binding(X, x=fun(NUM, NUM)), (), fun(fun(NUM, NUM), fun(NUM, NUM)))):
            self.check(True, ("kind", term, looked, kind))
            for other in (A, NUM, fun(A, A), fun(many(A), A), list(kind), None, (), (kind,)):
                if other != kind:
                    self.check(False, ("kind", term, looked, other))

    def test_what_has_no_kind(self):
        for term in (X, ("fun", "x", A), ALIKE, ("told", "f", ()), binding(("told", "f", ()), x=A), [*FIRST], None, ("num", True),
                     ("plus", num(1), ("truth", True))):
            self.check(False, ("kind", term, (), fun(A, A, TRUTH)))
            self.check(False, ("kind", term, (), None))
            self.check(False, ("kind", term, (), NUM))


class Holds(Findings):
    def test_holds(self):
        for finding in (holds(FIRST, (), CROSSED, 0), holds(ALIKE, LOOK, CROSSED, 0), holds(ASKING, (), LOOSE, 0),
                        holds(binding(X, x=NUM), (), (), 5), holds(FIRST, (), (*CROSSED, ("b", 9, 9, ())), 0),
                        holds(FIRST, (), (("a", 7, 8, ((6, 7),)),), 0), holds(COPIED, (), (("a", 0, 0, ()),), 10 ** 39)):
            self.check(True, finding)
            for bound in (finding[4] + 1, -1, None, True, "0", (0,)):
                if not (bound == finding[4] + 1 and finding[1] in (FIRST, ALIKE, ASKING, COPIED)):
                    self.check(False, replaced(finding, 4, bound))
            paper = finding[5]
            for wrong in (list(paper), paper + paper, paper[:-1], None, (paper,), shown(*finding[1:5])):
                self.check(False, replaced(finding, 5, wrong))

    def test_settings(self):
        for setting in ((), (("b", 2, 1, ((0, 0), (1, 0))),), list(LOOSE), (("a", 2, 1, ((1, 0), (0, 0))),),
                        (("a", 2, 1, ((0, 1),)),), (("a", True, 1, ()),), (("a", 2, 1),), (LOOSE[0], LOOSE[0]), None):
            self.check(False, replaced(HOLDS, 3, setting))
        # Without the things of a name there are no cases, but it is no setting of all names.
        self.check(False, ("holds", FIRST, (), (), 0, ()))
        self.check(False, ("holds", FIRST, (), (("b", 1, 1, ()),), 0, ()))
        self.check(True, ("holds", FIRST, (), (("a", 0, 0, ()),), 0, ()))
        listed = binding(("if", ("alike", X, Y), num(1), num(2)), x=A, y=A, z=many(B))
        case = ((A0, A0), (A1, A0), (items(), items()))
        self.check(False, fails(listed, LOOK, LOOSE, case))
        self.check(True, fails(listed, LOOK, (*LOOSE, ("b", 0, 0, ())), case))
        # Another one, by which it would hold with another paper.
        self.check(False, replaced(HOLDS, 3, CROSSED))

    def test_what_is_refused_or_not_walked(self):
        for setting in ((), LOOSE):
            self.check(False, ("holds", GREAT, (), setting, 3, ()))
            self.check(False, ("holds", MUCH, (), setting, 0, ((("worth", 1, 1), ("worth", 1, 1)),)))
            self.check(False, ("holds", num(1), (), setting, 0, ()))
            self.check(False, ("holds", num(1), (), setting, 0, ((("worth", 1, 0), ("worth", 1, 0)),)))
            self.check(False, ("holds", binding(num(1), f=fun(NUM, NUM)), (), setting, 0, ()))
        self.check(False, ("holds", FIRST, (), (("a", 10 ** 39, 10 ** 39, ()),), 0, ()))
        self.check(False, ("holds", COPIED, (), LOOSE, 10 ** 39, ()))
        self.check(False, ("holds", ALIKE, LOOK, LOOSE, 0, ()))


class Fails(Findings):
    def test_fails(self):
        looking = binding(("if", ("alike", X, Y), num(1), num(2)), x=A, y=A)
        wide = (("a", 1, 2, ((0, 0), (0, 1))),)
        for finding in (FAILS, fails(looking, LOOK, LOOSE, ((A1, A0), (A0, A0))), fails(looking, LOOK, wide, ((A0, A0), (A0, A1))),
                        fails(looking, LOOK, (*LOOSE, ("b", 1, 1, ())), ((A1, A0), (A0, A0)))):
            self.check(True, finding)
            for at in (5, 6):
                outcome = finding[at]
                for wrong in (outcome[:-1], outcome[:-1] + (outcome[-1] + 1,), list(outcome), FAULT, None, ("fault", outcome[-1]),
                              outcome[:1] + (outcome[1], True)):
                    self.check(False, replaced(finding, at, wrong))
            self.check(False, (*finding[:5], finding[6], finding[5]))

    def test_a_fault_against_a_worth(self):
        faulting = binding(("if", ("alike", X, Y), ("fault", A), X), x=A, y=A)
        self.check(True, fails(faulting, LOOK, LOOSE, ((A0, A0), (A1, A0))))
        self.check(False, fails(faulting, LOOK, LOOSE, ((A0, A0), (A0, A0))))
        self.check(False, fails(faulting, LOOK, CROSSED, ((A0, A1), (A0, A1))))

    def test_beyond_any_bound(self):
        listed = binding(("if", ("alike", Y, Z), X, ("none", NUM)), x=many(NUM), y=A, z=A)
        great = items(*range(40))
        self.check(True, fails(listed, LOOK, LOOSE, ((great, great), (A0, A0), (A1, A0))))
        self.check(True, fails(listed, LOOK, LOOSE, ((items(10 ** 30), items(10 ** 30)), (A0, A0), (A1, A0))))
        self.check(False, fails(listed, LOOK, LOOSE, ((great, items()), (A0, A0), (A1, A0))))

    def test_outcomes_that_are_tied(self):
        self.check(False, fails(ALIKE, LOOK, LOOSE, ((A0, A0), (A0, A0))))
        self.check(False, fails(FIRST, (), LOOSE, ((A0, A0), (A1, A0))))
        # Whatever it keeps: by a setting that keeps the name nothing fails.
        for case in cases_of(fun(A, A, TRUTH), CROSSED, 0):
            self.check(False, fails(ALIKE, LOOK, CROSSED, case))

    def test_arguments_that_are_not_tied(self):
        apart = (("a", 2, 2, ((0, 0), (1, 0))),)
        self.check(True, fails(ALIKE, LOOK, apart, ((A0, A0), (A1, A0))))
        for case in (((A0, A0), (A0, A1)), ((A0, A1), (A1, A0)), ((A1, A1), (A0, A0))):
            self.check(False, fails(ALIKE, LOOK, apart, case))
        self.check(False, fails(ALIKE, LOOK, (("a", 3, 3, ()),), ((A0, A0), (A1, A0))))

    def test_cases_otherwise(self):
        for case in ([(A0, A0), (A1, A0)], ([A0, A0], (A1, A0)), ((A0, A0),), ((A0, A0), (A1, A0), (A0, A0)), (A0, A1),
                     ((A0, A0, A0), (A1, A0)), ((A0,), (A1, A0)), ((A2, A0), (A1, A0)), ((A0, A1), (A1, A0)), (), None,
                     ((("thing", "a", False), A0), (A1, A0)), ((B0, B0), (A1, A0)), ((A0, A0), None)):
            self.check(False, replaced(FAILS, 4, case))
        self.check(False, replaced(FAILS, 3, ()))
        self.check(False, replaced(FAILS, 3, (("b", 2, 1, ()),)))
        self.check(False, replaced(FAILS, 2, ()))

    def test_tables(self):
        told = binding(("if", ("alike", X, Y), call(F, X), ("truth", False)), f=fun(A, TRUTH), x=A, y=A)
        tables = (table((A0, True), (A1, True)), table((A0, True)))
        self.check(True, fails(told, LOOK, LOOSE, (tables, (A0, A0), (A1, A0))))
        apart = (table((A0, True), (A1, False)), table((A0, True)))
        self.check(False, fails(told, LOOK, LOOSE, (apart, (A0, A0), (A1, A0))))
        short = (table((A0, True)), table((A0, True)))
        self.check(False, fails(told, LOOK, LOOSE, (short, (A0, A0), (A1, A0))))
        # A table that tells a fault is tied with one that does, too.
        faulting = (table((A0, FAULT), (A1, FAULT)), table((A0, FAULT)))
        self.check(True, fails(told, LOOK, LOOSE, (faulting, (A0, A0), (A1, A0))))

    def test_makers_are_no_worths(self):
        told = binding(("if", ("alike", X, Y), X, call(F, X)), f=fun(A, A), x=A, y=A)
        maker = ("maker", 0, 1)
        self.check(False, fails(told, LOOK, LOOSE, ((maker, maker), (A0, A0), (A1, A0))))

    def test_what_is_refused_or_not_walked(self):
        self.check(False, ("fails", MUCH, (), (), ((1, 1),), ("worth", 1, 1), ("fault", 1)))
        self.check(False, ("fails", num(1), (), (), (), ("worth", 1, 0), ("fault", 0)))


class Alike(Findings):
    def test_alike(self):
        for finding in (SAME, alike(ASKING, ASKING, (), 0), alike(MAKING, MAKING, (), 0), alike(ALIKE, ALIKE, LOOK, 0),
                        alike(binding(X, x=NUM), binding(("plus", X, num(0)), x=NUM), (), 150)):
            self.check(True, finding)
            self.check(True, replaced(finding, 5, finding[5][::-1]))
            self.check(True, (finding[0], finding[2], finding[1], *finding[3:]))
            for wrong in (list(finding[5]), finding[5][:-1], finding[5] * 2, None, (finding[5],)):
                self.check(False, replaced(finding, 5, wrong))
            for bound in (-1, None, True, "0"):
                self.check(False, replaced(finding, 4, bound))

    def test_unlike_ones(self):
        self.check(False, ("alike", FIRST, SECOND, (), 0, alike(FIRST, FIRST, (), 0)[5]))
        self.check(False, ("alike", FIRST, SECOND, (), 0, alike(SECOND, SECOND, (), 0)[5]))

    def test_two_kinds(self):
        one, other = binding(num(1), x=A), binding(num(1), x=B)
        self.check(False, ("alike", one, other, (), 0, alike(one, one, (), 0)[5]))
        self.check(False, ("alike", one, binding(num(1), x=A, y=A), (), 0, alike(one, one, (), 0)[5]))

    def test_what_is_refused_or_not_walked(self):
        self.check(False, ("alike", GREAT, GREAT, (), 3, ()))
        self.check(False, ("alike", MUCH, MUCH, (), 0, (((0,), ("worth", 1)),)))
        unbounded = binding(X, x=A, f=fun(A, many(A)))
        self.check(False, ("alike", unbounded, unbounded, (), 0, ()))
        self.check(False, ("alike", num(1), num(1), (), 0, (((), ("worth", 1)),)))
        higher = binding(num(1), f=fun(NUM, NUM))
        self.check(False, ("alike", higher, higher, (), 0, ()))
        for bound in (200, 10 ** 39):
            self.check(False, ("alike", COPIED, COPIED, (), bound, ()))
            self.check(False, ("alike", binding(X, x=NUM), binding(X, x=NUM), (), bound, ()))
            listed = binding(X, x=many(either(NUM, many(NUM))))
            self.check(False, ("alike", listed, listed, (), bound, ()))
            asker = binding(X, x=A, f=fun(A, NUM))
            self.check(False, ("alike", asker, asker, (), bound, ()))


class Parted(Findings):
    def test_parted(self):
        for finding in (PARTED, unlike(FIRST, SECOND, (), (A1, A0)), unlike(FIRST, SECOND, LOOK, (A2, thing("a", 9))),
                        unlike(MAKING, TWICE, (), (("maker", 0, 1), A0)), unlike(MAKING, TWICE, (), (("maker", 0, 1), A2)),
                        unlike(MAKING, TWICE, (), (table((A0, A1), (A1, A0)), A0)),
                        unlike(MAKING, TWICE, (), (table((A0, A1), (A1, FAULT)), A0)),
                        unlike(SELF, binding(("none", A), x=many(A)), (), (items(*[A0] * 30),)),
                        unlike(binding(("fault", A), x=A), binding(X, x=A), (), (A0,)),
                        unlike(FIRST, SECOND, (), (A0, thing("a", 10 ** 39)))):
            self.check(True, finding)
            for at in (5, 6):
                outcome = finding[at]
                for wrong in (outcome[:-1], outcome[:-1] + (outcome[-1] + 1,), list(outcome), None, ()):
                    self.check(False, replaced(finding, at, wrong))
            self.check(False, (*finding[:5], finding[6], finding[5]))
            self.check(True, (finding[0], finding[2], finding[1], *finding[3:5], finding[6], finding[5]))

    def test_alike_but_for_the_steps(self):
        longer = binding(call(binding(X, x=A), X), x=A, y=A)
        self.check(False, unlike(FIRST, longer, (), (A0, A1)))
        self.check(False, unlike(FIRST, FIRST, (), (A0, A1)))
        self.check(False, unlike(FIRST, SECOND, (), (A0, A0)))
        self.check(False, unlike(binding(("fault", A), x=A), binding(call(binding(("fault", A), y=A), X), x=A), (), (A0,)))

    def test_worths_by_no_one_sizes(self):
        asked = fun(A, TRUTH)
        one = binding(call(F, X), f=asked, g=asked, x=A)
        other = binding(call(name("g"), X), f=asked, g=asked, x=A)
        yes, no = table((A0, True), (A1, True)), table((A0, False), (A1, False))
        self.check(True, unlike(one, other, (), (yes, no, A0)))
        self.check(True, unlike(one, other, (), (yes, no, A1)))
        self.check(True, unlike(one, other, (), (table((A0, True)), table((A0, False)), A0)))
        # Tables of two sizes; a thing that they have no row for; rows out of order, left out, twice.
        for args in ((yes, table((A0, False)), A0), (table((A0, True)), no, A0), (table((A0, True)), table((A0, False)), A1),
                     (yes, no, A2), (yes, table((A1, False), (A0, False)), A0), (yes, table((A0, False), (A0, False)), A0),
                     (yes, table((A1, False)), A0), (table((A1, True)), table((A1, False)), A1)):
            try:
                finding = unlike(one, other, (), args)
            except KindError:
                continue
            self.check(False, finding)
        self.check(False, ("parted", one, other, (), (table(), table(), A0), ("fault", 4), ("worth", True, 4)))
        # Sizes that no row asks for: a pair with no thing at its other side.
        empty = binding(X, f=fun(pair(A, B), TRUTH), x=A, y=A)
        second = binding(Y, f=fun(pair(A, B), TRUTH), x=A, y=A)
        self.check(True, unlike(empty, second, (), (table(), A0, A1)))
        self.check(True, unlike(empty, second, (), (table((("pair", A0, B0), True), (("pair", A1, B0), True)), A0, A1)))
        self.check(False, unlike(empty, second, (), (table((("pair", A0, B0), True)), A0, A1)))

    def test_makers(self):
        two = binding(call(F, X, Y), f=fun(A, A, B), x=A, y=A)
        turned = binding(call(F, Y, X), f=fun(A, A, B), x=A, y=A)
        self.check(True, unlike(two, turned, (), (("maker", 0, 2), A0, A1)))
        for maker in (("maker", 1, 2), ("maker", 0, 1), ("maker", 0, 3), ("maker", False, 2), ("maker", 0, True), ["maker", 0, 2],
                      ("maker", 0), ("maker", 0, 2, 0)):
            outcomes = [("worth", ("made", 0, (A0, A1)), 5), ("worth", ("made", 0, (A1, A0)), 5)]
            self.check(False, ("parted", two, turned, (), (maker, A0, A1), *outcomes))
            try:
                self.check(False, unlike(two, turned, (), (maker, A0, A1)))
            except (KindError, ValueError, TypeError, IndexError, KeyError):
                pass
        behind = binding(call(F, X), x=A, f=fun(A, A))
        other = binding(X, x=A, f=fun(A, A))
        self.check(True, unlike(behind, other, (), (A0, ("maker", 1, 1))))
        self.check(False, unlike(behind, other, (), (A0, ("maker", 0, 1))))
        # No maker where a truth is told, or for data.
        self.check(False, ("parted", ASKING, binding(X, f=fun(A, TRUTH), x=A, y=A), (), (("maker", 0, 1), A0, A1),
                           ("worth", A0, 4), ("worth", A1, 3)))
        unused = [binding(told, f=fun(A, TRUTH), x=A, y=A) for told in (X, Y)]
        self.check(False, unlike(*unused, (), (("maker", 0, 1), A0, A1)))
        self.check(True, unlike(*unused, (), (table((A0, True), (A1, True)), A0, A1)))
        self.check(False, ("parted", FIRST, SECOND, (), (("maker", 0, 1), A1), ("worth", ("maker", 0, 1), 2), ("worth", A1, 2)))

    def test_arguments_otherwise(self):
        for args in ([A0, A1], (A0,), (A0, A1, A1), (), None, (A0, B0), (A0, 1), (A0, None), (A0, ["thing", "a", 1]),
                     (A0, ("thing", "a", True)), (A0, ("thing", "a", -1)), (A0, ("made", 0, (A0,)))):
            self.check(False, replaced(PARTED, 4, args))

    def test_two_kinds(self):
        self.check(False, ("parted", binding(X, x=A), binding(num(1), x=A), (), (A0,), ("worth", A0, 1), ("worth", 1, 1)))
        self.check(False, ("parted", FIRST, ALIKE, LOOK, (A0, A1), ("worth", A0, 2), ("worth", False, 2)))

    def test_data_kinds(self):
        self.check(True, ("parted", num(1), num(2), (), (), ("worth", 1, 0), ("worth", 2, 0)))
        self.check(False, ("parted", num(1), num(1), (), (), ("worth", 1, 0), ("worth", 1, 0)))

    def test_what_is_not_walked_or_too_much(self):
        one, other = binding(X, f=fun(NUM, A), x=A, y=A), binding(Y, f=fun(NUM, A), x=A, y=A)
        self.check(False, ("parted", one, other, (), (("maker", 0, 1), A0, A1), ("worth", A0, 3), ("worth", A1, 3)))
        self.check(False, ("parted", MUCH, binding(X, x=NUM), (), (1,), ("fault", 1), ("worth", 1, 1)))


class Led(Findings):
    def test_led(self):
        self.check(True, LED)
        self.check(True, ("led", num(1), num(1), (), ()))
        for paper in ((), LED[4][:1], LED[4] * 2, list(LED[4]), (((1,), "short"),), None):
            self.check(False, replaced(LED, 4, paper))
        self.check(True, replaced(LED, 4, LED[4][::-1]))
        self.check(False, ("led", LED[2], LED[1], (), LED[4]))

    def test_own_names(self):
        def built(own, kind):
            return ("built", NUM, own, "c", "n", call(("fun", "k", ("open", kind), name("k")), name("n")))

        self.check(True, ("led", built("o", "o"), built("p", "p"), (), ()))
        self.check(False, ("led", built("o", "o"), built("p", "o"), (), ()))
        # By the names that are looked at one of them has no kind.
        self.check(True, ("led", built("o", "o"), built("p", "p"), ("a",), ()))
        self.check(False, ("led", built("o", "o"), built("p", "p"), ("p",), ()))
        self.check(False, ("led", built("o", "o"), built("p", "p"), ("o",), ()))

    def test_terms_without_a_kind(self):
        self.check(False, ("led", X, X, (), ()))
        self.check(False, ("led", ALIKE, ALIKE, (), ()))
        self.check(True, ("led", ALIKE, ALIKE, LOOK, ()))
        self.check(False, ("led", ("if", ("truth", True), num(1), X), num(1), (), (((), "chosen"),)))


class Drawn(Findings):
    """What the program tells of drawn functions are findings that hold; with one part of another one's they are not."""

    def test_what_is_told(self):
        seen = {}
        for at, (kind, looked) in enumerate(((fun(A, A, A), ()), (fun(A, A, TRUTH), LOOK), (fun(many(A), A, many(A)), LOOK),
                                             (fun(fun(A, B), A, B), ()), (fun(fun(A, TRUTH), A, A, A), LOOK))):
            for seed in range(25):
                terms = LeadTerms(500 * at + seed, looked) if seed % 2 else Terms(500 * at + seed, looked)
                one, other = terms.function(kind, 3), terms.function(kind, 3)
                for finding in told_of(one, other, kind, looked):
                    seen[finding[0]] = seen.get(finding[0], 0) + 1
                    self.check(True, finding)
        self.assertEqual(len(seen), 6)
        self.assertGreater(min(seen.values()), 5, seen)


def told_of(one, other, kind, looked):
    """The findings that the program tells of two functions."""
    found = [("kind", one, looked, kind), ("led", one, led(one, looked)[0], looked, led(one, looked)[1])]
    for setting in ((("a", 2, 1, ((0, 0), (1, 0))), ("b", 1, 1, ((0, 0),))), (("a", 2, 2, ((0, 1), (1, 0))), ("b", 1, 1, ()))):
        try:
            told = shown(one, looked, setting, 1)
            head = (told[0], one, looked, setting)
            found.append((*head, 1, *told[1:]) if told[0] == "holds" else (*head, *told[1:]))
        except KindError:
            pass
    try:
        told = parted(one, other, looked, 1)
        found.append(("parted", one, other, looked, *told) if told else alike(one, other, looked, 1))
        found.append(alike(one, one, looked, 1))
        leak = leak_of(one, looked, 1)
        if leak is not None and "maker" not in repr(leak):
            found.append(fails(one, looked, leak[0], tuple(zip(leak[1], leak[2]))))
    except KindError:
        pass
    return found


if __name__ == "__main__":
    unittest.main()
