import unittest

from kindalone.cases import cases_of
from kindalone.checking import kind_of
from kindalone.errors import TooMany, TooMuch
from kindalone.running import run
from kindalone.showchecks import paper_holds
from kindalone.showing import shown
from tests.samples import (A, B, NUM, TOO_MUCH, TRUTH, WRONG, Unchanged, binding, call, either, fun, items, many, name,
                           num, pair, replaced, table, thing)

A0, A1 = thing("a", 0), thing("a", 1)
X, Y, Z, F = name("x"), name("y"), name("z"), name("f")
ONE_TO_ONE = (("a", 2, 2, ((0, 0), (1, 1))),)
CROSSED = (("a", 2, 2, ((0, 1), (1, 0))),)
LOOSE = (("a", 2, 1, ((0, 0), (1, 0))),)
NOTHING = (("a", 0, 0, ()),)
LOOK = ("a",)
ALIKE = binding(("alike", X, Y), x=A, y=A)
# Alike ones take a step more.
LONGER = binding(("if", ("alike", X, Y), call(binding(X, x=A), X), X), x=A, y=A)
FAULTING = binding(("if", ("alike", X, Y), ("fault", A), X), x=A, y=A)
COPIED = binding(("fold", X, ("none", A), "x", "y", ("more", X, Y)), x=many(A))


def worth(told, steps):
    return ("worth", told, steps)


def fault(steps):
    return ("fault", steps)


class Shown(unittest.TestCase):
    def check(self, told, term, looked, setting, bound):
        self.assertEqual(repr(Unchanged(self).ask(shown, term, looked, setting, bound)), repr(told))

    def refused(self, error, term, looked, setting, bound):
        with self.assertRaises(error):
            shown(term, looked, setting, bound)

    def test_one_that_holds(self):
        self.check(("holds", ((worth(A0, 1), worth(A1, 1)), (worth(A1, 1), worth(A0, 1)))), binding(X, x=A), (), CROSSED, 0)
        self.check(("holds", ((worth(A0, 1), worth(A0, 1)), (worth(A1, 1), worth(A0, 1)))), binding(X, x=A), (), LOOSE, 0)
        self.check(("holds", ((worth(items(), 2), worth(items(), 2)), (worth(items(A0), 4), worth(items(A0), 4)),
                              (worth(items(A1), 4), worth(items(A0), 4)))), COPIED, (), LOOSE, 1)
        self.check(("holds", ((worth(1, 1), worth(1, 1)), (worth(2, 1), worth(2, 1)))), binding(("plus", X, num(1)), x=NUM),
                   (), (), 1)

    def test_one_that_looks_and_holds_by_a_setting_that_keeps_its_names(self):
        yes, no = worth(True, 2), worth(False, 2)
        self.check(("holds", ((yes, yes), (no, no), (no, no), (yes, yes))), ALIKE, LOOK, ONE_TO_ONE, 0)
        self.check(("holds", ((yes, yes), (no, no), (no, no), (yes, yes))), ALIKE, LOOK, CROSSED, 0)

    def test_one_that_looks_and_fails(self):
        # At the first case both are alike on both sides.
        self.check(("fails", ((A0, A0), (A1, A0)), worth(False, 2), worth(True, 2)), ALIKE, LOOK, LOOSE, 0)
        wide = (("a", 1, 2, ((0, 0), (0, 1))),)
        self.check(("fails", ((A0, A0), (A0, A1)), worth(True, 2), worth(False, 2)), ALIKE, LOOK, wide, 0)
        chosen = binding(("if", ("alike", X, Y), X, Z), x=A, y=A, z=A)
        setting = (("a", 3, 2, ((0, 0), (1, 0), (2, 1))),)
        told = shown(chosen, LOOK, setting, 0)
        self.assertEqual(told, ("fails", ((A0, A0), (A1, A0), (thing("a", 2), A1)), worth(thing("a", 2), 3), worth(A0, 3)))

    def test_the_first_case_that_fails_is_told(self):
        for term, looked, setting, bound in ((ALIKE, LOOK, LOOSE, 0), (FAULTING, LOOK, LOOSE, 0)):
            told = shown(term, looked, setting, bound)
            cases = cases_of(kind_of(term, looked), setting, bound)
            ahead = cases[:cases.index(told[1])]
            for case in ahead:
                lefts, rights = [tuple(two[at] for two in case) for at in (0, 1)]
                self.assertEqual(run(term, lefts)[0], run(term, rights)[0])

    def test_faults(self):
        self.check(("fails", ((A0, A0), (A1, A0)), worth(A0, 2), fault(2)), FAULTING, LOOK, LOOSE, 0)
        wide = (("a", 1, 2, ((0, 0), (0, 1))),)
        self.check(("fails", ((A0, A0), (A0, A1)), fault(2), worth(A0, 2)), FAULTING, LOOK, wide, 0)
        self.check(("holds", ((fault(2), fault(2)), (worth(A0, 2), worth(A1, 2)), (worth(A1, 2), worth(A0, 2)),
                              (fault(2), fault(2)))), FAULTING, LOOK, CROSSED, 0)
        self.check(("holds", ((fault(1), fault(1)),)), binding(("fault", NUM), x=many(A)), (), LOOSE, 0)

    def test_a_fault_against_a_number_that_its_steps_are(self):
        told = binding(("if", ("alike", X, Y), ("fault", NUM), num(2)), x=A, y=A)
        self.check(("fails", ((A0, A0), (A1, A0)), worth(2, 2), fault(2)), told, LOOK, LOOSE, 0)
        wide = (("a", 1, 2, ((0, 0), (0, 1))),)
        self.check(("fails", ((A0, A0), (A0, A1)), fault(2), worth(2, 2)), told, LOOK, wide, 0)

    def test_steps_may_be_unlike(self):
        self.check(("holds", ((worth(A0, 3), worth(A0, 3)), (worth(A0, 2), worth(A0, 3)), (worth(A1, 2), worth(A0, 3)),
                              (worth(A1, 3), worth(A0, 3)))), LONGER, LOOK, LOOSE, 0)
        stopped = binding(("if", ("alike", X, Y), ("fault", A), call(binding(("fault", A), x=A), X)), x=A, y=A)
        self.assertEqual(shown(stopped, LOOK, LOOSE, 0)[1][1], (fault(3), fault(2)))

    def test_tables(self):
        told = shown(binding(call(F, X), f=fun(A, A), x=A), (), CROSSED, 0)
        self.assertEqual(told[0], "holds")
        self.assertEqual(len(told[1]), 8)
        self.assertEqual(told[1][0], (worth(A0, 3), worth(A1, 3)))

    def test_no_cases(self):
        self.check(("holds", ()), ALIKE, LOOK, NOTHING, 3)
        self.check(("holds", ()), ALIKE, LOOK, (("a", 3, 3, ()),), 3)
        self.check(("holds", ()), binding(("second", ("pair", TOO_MUCH, X)), x=A), (), NOTHING, 3)

    def test_a_setting_with_more_names(self):
        more = (("a", 2, 1, ((0, 0), (1, 0))), ("b", 3, 3, ()))
        self.assertEqual(shown(ALIKE, LOOK, more, 0), shown(ALIKE, LOOK, LOOSE, 0))

    def test_too_many(self):
        self.refused(TooMany, binding(num(1), x=pair(NUM, pair(NUM, pair(NUM, NUM)))), (), (), 3)
        # Ahead of TooMuch.
        self.refused(TooMany, binding(TOO_MUCH, x=pair(NUM, pair(NUM, pair(NUM, NUM)))), (), (), 3)

    def test_too_much(self):
        self.refused(TooMuch, binding(TOO_MUCH, x=NUM), (), (), 0)
        late = binding(("if", ("less", X, num(3)), X, TOO_MUCH), x=NUM)
        self.refused(TooMuch, late, (), (), 3)
        self.check(("holds", tuple((worth(k, 1), worth(k, 1)) for k in range(3))), late, (), (), 2)

    def test_too_much_only_of_a_run_that_is_come_to(self):
        # It fails at the second case; those with z above 0, behind it, are not come to.
        late = binding(("if", ("less", Z, num(1)), ("if", ("alike", X, Y), num(0), num(1)), TOO_MUCH), z=NUM, x=A, y=A)
        self.check(("fails", ((0, 0), (A0, A0), (A1, A0)), worth(1, 3), worth(0, 3)), late, LOOK, LOOSE, 1)
        self.refused(TooMuch, late, LOOK, ONE_TO_ONE, 1)
        # It is come to where the right one alone is too much.
        right = binding(("if", ("alike", X, Y), TOO_MUCH, num(1)), x=A, y=A)
        self.refused(TooMuch, right, LOOK, (("a", 2, 1, ((1, 0),)),), 0)


class Papers(unittest.TestCase):
    ALL = (
        (binding(X, x=A), (), CROSSED, 0),
        (COPIED, (), LOOSE, 2),
        (LONGER, LOOK, LOOSE, 0),
        (FAULTING, LOOK, CROSSED, 0),
        (ALIKE, LOOK, ONE_TO_ONE, 0),
        (binding(("plus", X, num(1)), x=NUM), (), (), 3),
        (binding(call(F, X), f=fun(A, TRUTH), x=A), (), LOOSE, 0),
        (binding(("case", X, "x", ("left", X, NUM), "y", ("right", A, num(1))), x=either(A, B)), (),
         (("a", 1, 1, ((0, 0),)), ("b", 1, 1, ((0, 0),))), 0),
    )

    def check(self, held, asked, thing):
        self.assertIs(Unchanged(self).ask(paper_holds, *asked, thing), held, (asked, thing))

    def test_the_right_one(self):
        for asked in self.ALL:
            told, paper = shown(*asked)
            self.assertEqual(told, "holds")
            self.check(True, asked, paper)

    def test_the_right_one_written_out(self):
        self.check(True, self.ALL[0], ((worth(A0, 1), worth(A1, 1)), (worth(A1, 1), worth(A0, 1))))
        self.check(True, self.ALL[3], ((fault(2), fault(2)), (worth(A0, 2), worth(A1, 2)), (worth(A1, 2), worth(A0, 2)),
                                       (fault(2), fault(2))))

    def test_without_cases(self):
        asked = (ALIKE, LOOK, NOTHING, 3)
        self.check(True, asked, ())
        for thing in (((),), [], None, {}, ((fault(2), fault(2)),), "", 0, False):
            self.check(False, asked, thing)

    def test_a_pair_left_out_twice_exchanged_or_too_many(self):
        for asked in self.ALL:
            paper = shown(*asked)[1]
            for at, row in enumerate(paper):
                self.check(False, asked, paper[:at] + paper[at + 1:])
                self.check(False, asked, paper[:at] + (row,) + paper[at:])
                exchanged = replaced(paper, at, (row[1], row[0]))
                self.check(repr(exchanged) == repr(paper), asked, exchanged)
            self.check(False, asked, paper + paper)
            self.check(False, asked, paper + ((),))
            self.check(repr(paper[::-1]) == repr(paper), asked, paper[::-1])

    def test_outcomes_otherwise(self):
        for asked in self.ALL:
            paper = shown(*asked)[1]
            for at, row in enumerate(paper):
                for side, outcome in enumerate(row):
                    for wrong in self.otherwise(outcome):
                        self.check(False, asked, replaced(paper, at, replaced(row, side, wrong)))

    def otherwise(self, outcome):
        """Outcomes that are not this one."""
        steps = outcome[-1]
        wrongs = [outcome[:-1] + (steps + 1,), outcome[:-1] + (steps - 1,), outcome[:-1] + (bool(steps),), outcome[:-1],
                  outcome + (steps,), list(outcome), (), None, outcome[:-1] + (None,), outcome[:-1] + (str(steps),)]
        if outcome[0] == "fault":
            wrongs += [worth(A0, steps), ("fault",), "fault", ("Fault", steps)]
        else:
            told = outcome[1]
            wrongs += [fault(steps), worth((told,), steps), worth([told], steps), worth(None, steps), ("worths", told, steps)]
            if isinstance(told, bool):
                wrongs += [worth(int(told), steps), worth(not told, steps)]
            elif isinstance(told, int):
                wrongs += [worth(told + 1, steps)] + [worth(bool(told), steps)] * (told < 2)
            else:
                wrongs += [worth(list(told), steps), worth(told + (0,), steps), worth(told[:-1], steps)]
        return wrongs

    def test_truths_in_place_of_numbers(self):
        asked = (binding(X, x=NUM), (), (), 1)
        self.check(True, asked, ((worth(0, 1), worth(0, 1)), (worth(1, 1), worth(1, 1))))
        self.check(False, asked, ((worth(0, 1), worth(0, 1)), (worth(1, 1), worth(True, 1))))
        self.check(False, asked, ((worth(False, 1), worth(0, 1)), (worth(1, 1), worth(1, 1))))
        self.check(False, asked, ((worth(0, 1), worth(0, True)), (worth(1, 1), worth(1, 1))))
        asked = (binding(X, x=TRUTH), (), (), 1)
        self.check(True, asked, ((worth(False, 1), worth(False, 1)), (worth(True, 1), worth(True, 1))))
        self.check(False, asked, ((worth(False, 1), worth(False, 1)), (worth(True, 1), worth(1, 1))))
        things = ((worth(("thing", "a", False), 1), worth(A1, 1)), (worth(A1, 1), worth(A0, 1)))
        self.check(False, self.ALL[0], things)

    def test_lists_in_place_of_tuples(self):
        for asked in self.ALL:
            paper = shown(*asked)[1]
            self.check(False, asked, list(paper))
            self.check(False, asked, tuple(list(row) for row in paper))
            self.check(False, asked, tuple((list(left), right) for left, right in paper))
        asked = self.ALL[1]
        paper = shown(*asked)[1]
        self.check(False, asked, replaced(paper, 0, (worth(("list", []), 2), worth(items(), 2))))

    def test_what_shown_tells_is_no_paper(self):
        for asked in self.ALL:
            self.check(False, asked, shown(*asked))

    def test_one_that_fails_has_no_paper(self):
        asked = (ALIKE, LOOK, LOOSE, 0)
        told = shown(*asked)
        self.assertEqual(told[0], "fails")
        runs = []
        for case in cases_of(fun(A, A, TRUTH), LOOSE, 0):
            runs.append(tuple(run(ALIKE, tuple(two[at] for two in case)) for at in (0, 1)))
        for thing in (tuple(runs), (), told, told[1:], (runs[0],), ((told[2], told[3]),)):
            self.check(False, asked, thing)

    def test_anything(self):
        for asked in self.ALL:
            for thing in WRONG:
                self.check(False, asked, thing)
            paper = shown(*asked)[1]
            for thing in WRONG:
                self.check(False, asked, replaced(paper, 0, thing))
                self.check(False, asked, replaced(paper, len(paper) - 1, (paper[-1][0], thing)))

    def test_where_too_many_or_too_much_comes(self):
        great = pair(NUM, pair(NUM, pair(NUM, NUM)))
        for thing in ((), ((worth(1, 1), worth(1, 1)),) * 256, None, ((fault(1), fault(1)),)):
            self.check(False, (binding(num(1), x=great), (), (), 3), thing)
            self.check(False, (binding(TOO_MUCH, x=NUM), (), (), 0), thing)
            self.check(False, (binding(TOO_MUCH, x=great), (), (), 3), thing)

    def test_great_papers(self):
        # Beyond what is of anything: what was told may be handed in again.
        copied = binding(("fold", X, ("none", NUM), "x", "y", ("more", X, Y)), x=many(NUM))
        asked = (copied, (), (), 3)
        paper = shown(*asked)[1]
        self.assertEqual(len(paper), 85)
        self.check(True, asked, paper)
        self.check(False, asked, replaced(paper, 84, (paper[84][0], worth(items(3, 3, 2), 8))))

    def test_eighty_one_tables_on_a_side(self):
        told = binding(call(F, ("pair", ("truth", True), ("truth", False))), f=fun(pair(TRUTH, TRUTH), A))
        asked = (told, (), (("a", 3, 3, ((0, 1), (1, 0), (2, 2))),), 0)
        paper = shown(*asked)[1]
        self.assertEqual(len(paper), 81)
        self.check(True, asked, paper)
        wrong = (fault(2), fault(2))
        for thing in (None, list(paper), paper[:-1], paper + paper[:1], (), replaced(paper, 0, wrong),
                      replaced(paper, 40, wrong), replaced(paper, 80, wrong), replaced(paper, 80, None)):
            self.check(False, asked, thing)

    def test_a_wrong_row_ahead_of_a_run_that_is_too_much(self):
        late = (binding(("if", ("less", X, num(1)), X, TOO_MUCH), x=NUM), (), (), 1)
        row = (worth(0, 1), worth(0, 1))
        for thing in ((row, row), ((), row), (row,), (row, (fault(1), fault(1)))):
            self.check(False, late, thing)

    def test_a_table_in_the_arguments(self):
        asked = (binding(call(F, X), f=fun(A, NUM), x=A), (), LOOSE, 1)
        paper = shown(*asked)[1]
        self.assertEqual(len(paper), 4)
        self.assertEqual(paper[2], (worth(1, 3), worth(1, 3)))
        self.check(True, asked, paper)
        self.check(False, asked, replaced(paper, 2, (worth(True, 3), worth(1, 3))))
        self.assertEqual(cases_of(fun(fun(A, NUM), A, NUM), LOOSE, 1)[2][0][0], table((A0, 1), (A1, 1)))


if __name__ == "__main__":
    unittest.main()
