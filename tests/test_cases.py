import random
import unittest

from kindalone.cases import cases_of
from kindalone.errors import TooMany
from tests.samples import A, B, C, NUM, TRUTH, Unchanged, either, fun, items, many, pair, table, thing
from tests.slow import slow_cases, slow_worths

A0, A1 = thing("a", 0), thing("a", 1)
B0 = thing("b", 0)
ONE_TO_ONE = (("a", 2, 2, ((0, 0), (1, 1))),)
LOOSE = (("a", 2, 1, ((0, 0), (1, 0))),)
ONE_B = (("b", 1, 1, ((0, 0),)),)
# Of bound 3 so many worths: 64, 100, 101.
SIXTY_FOUR = pair(NUM, pair(NUM, NUM))
FIVE = either(NUM, B)
HUNDRED = pair(NUM, pair(FIVE, FIVE))
HUNDRED_AND_ONE = either(HUNDRED, B)


def drawn_pairs(drawn):
    """How many things an open name has at both sides, and which are tied."""
    lefts, rights = drawn.randrange(4), drawn.randrange(4)
    return lefts, rights, tuple((left, right) for left in range(lefts) for right in range(rights) if drawn.random() < 0.5)


def drawn_small(drawn, deep):
    if deep == 0 or drawn.random() < 0.4:
        return drawn.choice((A, B, TRUTH))
    return (drawn.choice(("pair", "either")), drawn_small(drawn, deep - 1), drawn_small(drawn, deep - 1))


def drawn_data(drawn, deep):
    if deep == 0 or drawn.random() < 0.3:
        return drawn.choice((A, B, TRUTH, NUM))
    word = drawn.choice(("pair", "either", "list"))
    if word == "list":
        return (word, drawn_data(drawn, deep - 1))
    return (word, drawn_data(drawn, deep - 1), drawn_data(drawn, deep - 1))


def count(kind, sizes, bound):
    """How many worths a kind has."""
    word = kind[0]
    if word in ("open", "num", "truth"):
        return {"open": sizes.get(kind[-1]), "num": bound + 1, "truth": 2}[word]
    inner = [count(part, sizes, bound) for part in kind[1:]]
    if word == "list":
        return sum(inner[0] ** length for length in range(bound + 1))
    return {"pair": lambda one, other: one * other, "either": lambda one, other: one + other,
            "fun": lambda asked, told: told ** asked}[word](*inner)


class Cases(unittest.TestCase):
    def check(self, cases, kind, setting, bound):
        self.assertEqual(repr(Unchanged(self).ask(cases_of, kind, setting, bound)), repr(cases))

    def refused(self, kind, setting, bound):
        with self.assertRaises(TooMany):
            cases_of(kind, setting, bound)

    def test_an_argument_without_an_open_name(self):
        self.check((((False, False),), ((True, True),)), fun(TRUTH, A), ONE_TO_ONE, 0)
        self.check((((0, 0),), ((1, 1),), ((2, 2),)), fun(NUM, NUM), (), 2)

    def test_an_argument_with_one(self):
        self.check((((A0, A0),), ((A1, A1),)), fun(A, A), ONE_TO_ONE, 0)
        self.check((((A0, A0),), ((A1, A0),)), fun(A, A), LOOSE, 0)
        crossed = (("a", 2, 2, ((0, 1), (1, 0))),)
        self.check((((A0, A1),), ((A1, A0),)), fun(A, A), crossed, 0)
        full = (("a", 2, 2, ((0, 0), (0, 1), (1, 0), (1, 1))),)
        self.check((((A0, A0),), ((A0, A1),), ((A1, A0),), ((A1, A1),)), fun(A, A), full, 3)

    def test_order(self):
        self.check((((A0, A0), (False, False)), ((A0, A0), (True, True)), ((A1, A0), (False, False)),
                    ((A1, A0), (True, True))), fun(A, TRUTH, A), LOOSE, 0)
        self.check((((False, False), (A0, A0)), ((False, False), (A1, A0)), ((True, True), (A0, A0)),
                    ((True, True), (A1, A0))), fun(TRUTH, A, A), LOOSE, 0)
        self.check((((items(), items()),), ((items(A0), items(A0)),), ((items(A1), items(A0)),),
                    ((items(A0, A0), items(A0, A0)),), ((items(A0, A1), items(A0, A0)),),
                    ((items(A1, A0), items(A0, A0)),), ((items(A1, A1), items(A0, A0)),)), fun(many(A), A), LOOSE, 2)

    def test_tables(self):
        # The things at the left are both tied with the one at the right, so that both tell the same.
        tables = (((table((A0, False), (A1, False)), table((A0, False))),), ((table((A0, True), (A1, True)),
                                                                             table((A0, True))),))
        self.check(tables, fun(fun(A, TRUTH), TRUTH), LOOSE, 0)
        self.check((((table(), table()),),), fun(fun(A, TRUTH), TRUTH), (("a", 0, 0, ()),), 0)
        self.check((((table((A0, A0), (A1, A0)), table((A0, A0))),), ((table((A0, A0), (A1, A1)), table((A0, A0))),),
                    ((table((A0, A1), (A1, A0)), table((A0, A0))),), ((table((A0, A1), (A1, A1)), table((A0, A0))),)),
                   fun(fun(A, A), A), LOOSE, 0)

    def test_several_arguments_and_names(self):
        setting = (("a", 2, 2, ((0, 1), (1, 0))), ("b", 1, 1, ((0, 0),)))
        cases = cases_of(fun(fun(A, TRUTH), many(A), pair(A, B), B, B), setting, 1)
        self.assertEqual(len(cases), 4 * 3 * 2 * 1)
        self.assertEqual(cases[0], ((table((A0, False), (A1, False)), table((A0, False), (A1, False))), (items(), items()),
                                    (("pair", A0, B0), ("pair", A1, B0)), (B0, B0)))
        self.assertEqual(cases[6], ((table((A0, False), (A1, True)), table((A0, True), (A1, False))), (items(), items()),
                                    (("pair", A0, B0), ("pair", A1, B0)), (B0, B0)))

    def test_a_setting_with_more_names_than_the_kind(self):
        more = (("a", 2, 1, ((0, 0), (1, 0))), ("c", 3, 3, ((0, 0),)), ("d", 0, 0, ()))
        self.assertEqual(cases_of(fun(A, TRUTH, A), more, 1), cases_of(fun(A, TRUTH, A), LOOSE, 1))
        self.check((((0, 0),), ((1, 1),)), fun(NUM, NUM), more, 1)

    def test_no_cases_at_all(self):
        self.check((), fun(A, A), (("a", 0, 0, ()),), 3)
        self.check((), fun(A, A), (("a", 2, 2, ()),), 3)
        self.check((), fun(A, A), (("a", 0, 3, ()),), 3)
        self.check((), fun(TRUTH, A, A), (("a", 3, 0, ()),), 3)
        self.check((), fun(A, TRUTH, A), (("a", 3, 0, ()),), 3)
        # However many the other arguments have.
        self.check((), fun(HUNDRED, HUNDRED, HUNDRED, A, A), (("a", 3, 0, ()), *ONE_B), 3)
        self.check((), fun(A, HUNDRED, HUNDRED, HUNDRED, A), (("a", 3, 0, ()), *ONE_B), 3)
        self.check((((items(), items()),),), fun(many(A), A), (("a", 2, 2, ()),), 3)

    def test_just_a_hundred_worths_on_a_side(self):
        self.assertEqual(len(slow_worths(HUNDRED, (("b", 1),), 3)), 100)
        self.assertEqual(len(cases_of(fun(HUNDRED, B), ONE_B, 3)), 100)
        self.refused(fun(HUNDRED_AND_ONE, B), ONE_B, 3)
        self.refused(fun(TRUTH, HUNDRED_AND_ONE, B), ONE_B, 3)

    def test_a_hundred_and_one_worths_on_one_side_alone(self):
        with_c = either(HUNDRED, C)
        self.assertEqual(len(cases_of(fun(with_c, C), (*ONE_B, ("c", 0, 0, ())), 3)), 100)
        self.refused(fun(with_c, C), (*ONE_B, ("c", 1, 0, ())), 3)
        self.refused(fun(with_c, C), (*ONE_B, ("c", 0, 1, ())), 3)
        # Even where there are no cases.
        self.refused(fun(with_c, C, C), (*ONE_B, ("c", 1, 0, ())), 3)
        self.refused(fun(C, with_c, C), (*ONE_B, ("c", 1, 0, ())), 3)
        self.refused(fun(A, HUNDRED_AND_ONE, A), (("a", 0, 0, ()), *ONE_B), 3)

    def test_just_two_hundred_cases(self):
        self.assertEqual(len(cases_of(fun(HUNDRED, TRUTH, B), ONE_B, 3)), 200)
        three = (("a", 3, 3, ((0, 0), (1, 1), (2, 2))),)
        self.assertEqual(len(cases_of(fun(either(SIXTY_FOUR, A), TRUTH, A), three, 3)), 134)
        self.refused(fun(either(SIXTY_FOUR, A), A, A), three, 3)
        self.assertEqual(3 * 67, 201)

    def test_more_pairs_than_worths(self):
        full = (("a", 3, 3, tuple((left, right) for left in range(3) for right in range(3))),)
        # 27 on a side, all tied with all: 729.
        self.refused(fun(pair(A, pair(A, A)), A), full, 0)
        self.assertEqual(len(cases_of(fun(pair(A, A), A), full, 0)), 81)
        self.refused(fun(pair(A, A), pair(A, A), A), full, 0)

    def test_a_kind_without_any_table(self):
        setting = (("a", 3, 3, ((0, 0),)), ("c", 0, 0, ()))
        six = A
        for level in range(5):
            six = pair(A, six)
        self.check((), fun(fun(six, C), A, A), setting, 3)
        self.check((), fun(A, fun(A, six, C), A), setting, 3)
        # Where a table is there, so are its rows.
        self.refused(fun(fun(six, B), A, A), (setting[0], *ONE_B), 3)
        without = (("a", 3, 0, ()), ("c", 0, 1, ()))
        self.check((), fun(fun(six, C), A, A), without, 3)

    def test_far_too_many(self):
        kind = NUM
        for level in range(5):
            kind = pair(kind, many(kind))
        self.refused(fun(kind, NUM), (), 3)

    def test_a_hundred_cases_of_a_hundred_worths_on_a_side(self):
        ab = ("open", "ab")
        kind = either(pair(NUM, pair(NUM, NUM)), pair(NUM, pair(ab, ab)))
        setting = (("ab", 3, 3, ((0, 1), (1, 0), (2, 2))),)
        crossed = (1, 0, 2)
        cases = []
        for one in range(4):
            for other in range(4):
                for last in range(4):
                    worth = ("left", ("pair", one, ("pair", other, last)))
                    cases.append(((worth, worth),))
        for number in range(4):
            for one in range(3):
                for other in range(3):
                    left = ("right", ("pair", number, ("pair", thing("ab", one), thing("ab", other))))
                    last = ("pair", thing("ab", crossed[one]), thing("ab", crossed[other]))
                    cases.append(((left, ("right", ("pair", number, last))),))
        self.assertEqual(len(cases), 100)
        self.check(tuple(cases), fun(kind, TRUTH), setting, 3)

    def test_eighty_one_tables_on_a_side(self):
        asked = pair(TRUTH, TRUTH)
        crossed = (("a", 3, 3, ((0, 1), (1, 0), (2, 2))),)
        cases = cases_of(fun(fun(asked, A), A), crossed, 0)
        self.assertEqual(len(cases), 81)
        self.check(tuple(slow_cases(fun(fun(asked, A), A), crossed, 0)), fun(fun(asked, A), A), crossed, 0)
        # Where a left one is tied with two right ones, each of the rows has as many choices.
        loose = (("a", 3, 3, ((0, 0), (1, 1), (1, 2))),)
        self.assertEqual(len(slow_cases(fun(fun(asked, A), A), loose, 0)), 81)
        self.check(tuple(slow_cases(fun(fun(asked, A), A), loose, 0)), fun(fun(asked, A), A), loose, 0)
        full = (("a", 3, 3, tuple((left, right) for left in range(3) for right in range(3))),)
        self.refused(fun(fun(asked, A), A), full, 0)

    def test_tables_of_many_rows(self):
        asked = pair(A, pair(A, pair(A, pair(A, A))))
        full = (("a", 3, 3, tuple((left, right) for left in range(3) for right in range(3))), *ONE_B)
        for told in (B, NUM):
            cases = cases_of(fun(fun(asked, told), A), full, 0)
            self.assertEqual(len(cases), 1)
            self.assertEqual(len(cases[0][0][0][1]), 243)
        # What they tell is not tied, wherever something that is asked is.
        apart = (full[0], ("b", 1, 1, ()))
        self.check((), fun(fun(asked, B), A), apart, 0)
        self.assertEqual(len(cases_of(fun(fun(asked, B), A), (("a", 3, 3, ()), ("b", 1, 1, ())), 0)), 1)
        # One side has many rows and one worth to tell, the other one few rows.
        uneven = (("a", 3, 1, ((0, 0), (2, 0))), ("b", 1, 3, ((0, 0), (0, 2))))
        self.assertEqual([two[0][1][1][0][1] for two in cases_of(fun(fun(asked, B), A), uneven, 0)],
                         [thing("b", 0), thing("b", 2)])

    def test_parts_that_have_far_too_many_worths(self):
        great = A
        for level in range(28):
            great = pair(A, great)
        setting = (("a", 1, 3, ((0, 0), (0, 1), (0, 2))), ("b", 0, 0, ()), ("c", 1, 0, ()))
        for kind in (pair(great, C), pair(C, great), pair(B, great), fun(great, C), fun(TRUTH, pair(great, C))):
            self.check((), fun(kind, A), setting, 1)
        self.check((((items(), items()),),), fun(many(great), A), setting, 0)
        self.check((((items(), items()),),), fun(many(pair(great, C)), A), setting, 3)
        empty = (((table(), table()),),)
        self.check(empty, fun(fun(B, great), A), setting, 3)

    def test_drawn_kinds_by_other_means(self):
        drawn = random.Random(5)
        seen = refused = 0
        for turn in range(400):
            setting = tuple((x, *drawn_pairs(drawn)) for x in ("a", "b"))
            kind = drawn_data(drawn, 2)
            if turn % 2:
                kind = fun(drawn_small(drawn, 1), drawn_data(drawn, 1))
            bound = drawn.randrange(3)
            sides = [tuple((row[0], row[at]) for row in setting) for at in (1, 2)]
            # What is far too many to be listed here is not asked of.
            if max(count(kind, dict(sizes), bound) for sizes in sides) > 100:
                refused += 1
                self.refused(fun(kind, A), setting, bound)
                continue
            cases = slow_cases(fun(kind, A), setting, bound)
            if len(cases) <= 200:
                seen += bool(cases)
                self.check(tuple(cases), fun(kind, A), setting, bound)
            else:
                self.refused(fun(kind, A), setting, bound)
        self.assertGreater(min(seen, refused), 50)

    def test_by_other_means(self):
        settings = (ONE_TO_ONE + ONE_B, LOOSE + ONE_B, (("a", 1, 3, ((0, 0), (0, 2))), ("b", 2, 2, ((0, 0), (1, 0)))),
                    (("a", 2, 2, ((0, 1),)), ("b", 0, 2, ())))
        kinds = (fun(A, A), fun(A, B, A), fun(many(A), A), fun(fun(A, B), A, B), fun(either(A, NUM), TRUTH, A),
                 fun(fun(A, TRUTH), fun(B, A), B), fun(fun(B, A, TRUTH), pair(A, B), NUM), fun(fun(TRUTH, B), many(B), B))
        seen = 0
        for setting in settings:
            for kind in kinds:
                for bound in range(3):
                    cases = slow_cases(kind, setting, bound)
                    if len(cases) <= 200:
                        self.check(tuple(cases), kind, setting, bound)
                        seen += len(cases)
                    else:
                        self.refused(kind, setting, bound)
        self.assertGreater(seen, 500)


if __name__ == "__main__":
    unittest.main()
