import unittest

from kindalone.errors import TooMany
from kindalone.worths import is_worth, worths_of
from tests.samples import A, B, C, NUM, TRUTH, WRONG, Unchanged, either, fun, many, pair, replaced, table
from tests.slow import slow_worths

SIZES = (("a", 2), ("b", 1), ("d", 0))
A0 = ("thing", "a", 0)
A1 = ("thing", "a", 1)
B0 = ("thing", "b", 0)
FAULT = ("fault",)
D = ("open", "d")


def strict(worths):
    """What tells True from 1."""
    return repr(worths)


class IsWorth(unittest.TestCase):
    def yes(self, kind, *things):
        for thing in things:
            self.assertIs(is_worth(kind, SIZES, thing), True, (kind, thing))

    def no(self, kind, *things):
        for thing in things:
            self.assertIs(is_worth(kind, SIZES, thing), False, (kind, thing))

    def test_things(self):
        self.yes(A, A0, A1)
        self.yes(B, B0)
        self.no(A, B0, ("thing", "a", 2), ("thing", "a", -1), ("thing", "a", True), ("thing", "a", False), 0, True,
                ("thing", "a"), ("thing", "a", 0, 0), ["thing", "a", 0], ("things", "a", 0), ("thing", "a", None),
                ("thing", ["a"], 0), ("thing", "a", "0"), ("thing", "a", (0,)), *WRONG)
        self.no(D, ("thing", "d", 0), ("thing", "a", 0))
        self.no(C, ("thing", "c", 0), ("thing", "a", 0))
        self.assertIs(is_worth(A, (), A0), False)
        self.assertIs(is_worth(A, (("a", 1),), A1), False)

    def test_numbers_and_truths(self):
        self.yes(NUM, 0, 1, 7, 10 ** 39)
        self.no(NUM, -1, True, False, None, "0", (0,), [0], A0, ("num", 0), *WRONG)
        self.yes(TRUTH, True, False)
        self.no(TRUTH, 0, 1, None, "yes", (True,), ("truth", True), *WRONG)

    def test_pairs(self):
        self.yes(pair(A, NUM), ("pair", A0, 5), ("pair", A1, 0))
        self.yes(pair(TRUTH, pair(B, A)), ("pair", True, ("pair", B0, A1)))
        self.no(pair(A, NUM), ("pair", 5, A0), ("pair", A0), ("pair", A0, 5, 5), ["pair", A0, 5], (A0, 5),
                ("pair", A0, True), ("pair", B0, 5), ("pairs", A0, 5), *WRONG)

    def test_eithers(self):
        self.yes(either(A, NUM), ("left", A0), ("right", 3))
        self.no(either(A, NUM), ("left", 3), ("right", A0), ("left", A0, A0), ["left", A0], ("middle", A0), A0, 3,
                ("right", True), ("left",), *WRONG)

    def test_lists(self):
        self.yes(many(NUM), ("list", ()), ("list", (1,)), ("list", (3, 2, 1, 0)))
        self.no(many(NUM), ("list", [1]), ("list", (True,)), ("list", (1, A0)), ["list", (1,)], ("list",), (1,), (),
                ("list", 1, 2), ("list", (1,), (2,)), ("list", None), *WRONG)
        self.yes(many(D), ("list", ()))
        self.no(many(D), ("list", (("thing", "d", 0),)))
        self.yes(many(many(TRUTH)), ("list", (("list", ()), ("list", (True,)))))

    def test_tables(self):
        right = table((A0, 1), (A1, 0))
        self.yes(fun(A, NUM), right, table((A0, FAULT), (A1, 10 ** 9)), table((A0, FAULT), (A1, FAULT)))
        self.no(fun(A, NUM), table((A0, 1)), table((A1, 0)), table(), table((A0, 1), (A0, 1), (A1, 0)),
                table((A1, 0), (A0, 1)), table((A0, 1), (A1, 0), (A1, 0)), table((A0, 1), (A0, 0)),
                ("table", [(A0, 1), (A1, 0)]), ["table", right[1]], table([A0, 1], (A1, 0)), table((A0, 1, 1), (A1, 0)),
                table((A0,), (A1, 0)), table((A0, True), (A1, 0)), table((A0, None), (A1, 0)), table(A0, A1),
                table((A0, 1), (("thing", "a", True), 0)), table((("thing", "a", False), 1), (A1, 0)),
                table((FAULT, 1), (A1, 0)), table((A0, ["fault"]), (A1, 0)), table((A0, ("fault", 0)), (A1, 0)),
                FAULT, ("table", right[1], ()), ("table",), right[1], *WRONG)
        self.no(fun(A, TRUTH), right, table((A0, True), (A1, 1)))
        self.yes(fun(A, TRUTH), table((A0, True), (A1, False)))

    def test_tables_over_truths(self):
        self.yes(fun(TRUTH, A), table((False, A0), (True, FAULT)))
        self.no(fun(TRUTH, A), table((0, A0), (1, A0)), table((True, A0), (False, A0)), table((False, A0), (1, A0)))

    def test_tables_over_pairs_and_eithers(self):
        self.yes(fun(pair(TRUTH, B), B), table((("pair", False, B0), B0), (("pair", True, B0), FAULT)))
        self.yes(fun(either(B, TRUTH), B), table((("left", B0), B0), (("right", False), B0), (("right", True), B0)))
        self.no(fun(either(B, TRUTH), B), table((("right", False), B0), (("right", True), B0), (("left", B0), B0)))

    def test_tables_of_more_arguments(self):
        kind = fun(B, TRUTH, NUM)
        inner = table((False, 1), (True, FAULT))
        self.yes(kind, table((B0, inner)))
        self.no(kind, table((B0, FAULT)), table((B0, 1)), table((B0, table((False, 1)))), inner,
                table((B0, table((False, FAULT), (True, table())))))

    def test_tables_without_a_row(self):
        self.yes(fun(D, A), table())
        self.yes(fun(C, A), table())
        self.yes(fun(D, A, B), table())
        self.no(fun(D, A), table((A0, A0)), ("table", []), ("list", ()))

    def test_a_kind_of_which_there_is_no_worth(self):
        self.no(fun(NUM, A), table(), table((0, A0)))
        self.no(fun(many(A), A), table())
        self.no(fun(A, NUM, A), table(), table((A0, table()), (A1, table())))
        self.no(fun(fun(A, A), A), table())

    def test_each_listed_one_is_a_worth_and_none_is_with_another_part(self):
        for kind in (A, pair(A, TRUTH), either(A, B), many(TRUTH), fun(A, B), fun(A, B, TRUTH), fun(either(A, B), A)):
            for worth in worths_of(kind, SIZES, 1):
                self.yes(kind, worth)
                if isinstance(worth, tuple):
                    for at in range(len(worth)):
                        for thing in (None, [], {}, "q", ("q",), -1, ("fault",)):
                            self.no(kind, replaced(worth, at, thing))
                    self.no(kind, worth + (None,), worth[:-1], list(worth))

    def test_a_table_of_just_as_many_rows_as_are_listed(self):
        for size, held in ((300, True), (301, False)):
            things = tuple((("thing", "a", number), B0) for number in range(size))
            self.assertIs(is_worth(fun(A, B), (("a", size), ("b", 1)), ("table", things)), held)

    def test_pairs_and_lists_are_not_counted(self):
        kind = TRUTH
        worth = True
        for level in range(4):
            kind = pair(kind, kind)
            worth = ("pair", worth, worth)
        self.yes(kind, worth)
        self.yes(many(TRUTH), ("list", (True,) * 2900))
        self.assertIs(is_worth(A, (("a", 10 ** 9),), ("thing", "a", 10 ** 9 - 1)), True)

    def test_nothing_is_changed(self):
        unchanged = Unchanged(self)
        for thing in (table((A0, 1), (A1, 0)), ["table", [[A0]]], {"table": []}, ("table", [(A0, 1)])):
            unchanged.ask(is_worth, fun(A, NUM), SIZES, thing)


class WorthsOf(unittest.TestCase):
    def check(self, kind, sizes, bound, worths):
        self.assertEqual(strict(worths_of(kind, sizes, bound)), strict(worths))

    def refused(self, kind, sizes, bound):
        with self.assertRaises(TooMany):
            worths_of(kind, sizes, bound)

    def test_plain_ones(self):
        self.check(A, SIZES, 0, (A0, A1))
        self.check(D, SIZES, 3, ())
        self.check(C, SIZES, 3, ())
        self.check(A, (), 3, ())
        self.check(TRUTH, (), 0, (False, True))
        for bound in range(4):
            self.check(NUM, (), bound, tuple(range(bound + 1)))

    def test_order(self):
        self.check(pair(TRUTH, A), SIZES, 0, (("pair", False, A0), ("pair", False, A1), ("pair", True, A0),
                                              ("pair", True, A1)))
        self.check(either(A, TRUTH), SIZES, 0, (("left", A0), ("left", A1), ("right", False), ("right", True)))
        self.check(many(A), SIZES, 0, (("list", ()),))
        self.check(many(A), SIZES, 1, (("list", ()), ("list", (A0,)), ("list", (A1,))))
        self.check(many(A), SIZES, 2, (("list", ()), ("list", (A0,)), ("list", (A1,)), ("list", (A0, A0)),
                                       ("list", (A0, A1)), ("list", (A1, A0)), ("list", (A1, A1))))
        self.check(fun(A, TRUTH), SIZES, 0, (table((A0, False), (A1, False)), table((A0, False), (A1, True)),
                                             table((A0, True), (A1, False)), table((A0, True), (A1, True))))
        self.check(fun(B, TRUTH, B), SIZES, 0, (table((B0, table((False, B0), (True, B0)))),))

    def test_as_point_6_says_by_each_bound(self):
        kinds = (A, NUM, pair(NUM, A), pair(A, pair(NUM, TRUTH)), either(many(B), NUM), many(B), many(NUM),
                 many(many(B)),
                 fun(A, NUM), fun(A, many(B)), fun(B, A, TRUTH), fun(A, B, TRUTH), fun(TRUTH, B, A, B), fun(D, A),
                 fun(A, D), fun(D, D), fun(either(A, B), NUM), fun(pair(B, A), either(B, B)), many(D), pair(many(A), D),
                 either(D, NUM), fun(D, A, NUM), fun(A, D, NUM), fun(A, D, D), fun(A, A, D))
        seen = 0
        for kind in kinds:
            for bound in range(4):
                worths = slow_worths(kind, SIZES, bound)
                if len(worths) > 300:
                    self.refused(kind, SIZES, bound)
                else:
                    self.check(kind, SIZES, bound, tuple(worths))
                    seen += 1
        self.assertGreater(seen, 60)

    def test_just_300_and_301_worths(self):
        self.assertEqual(len(worths_of(A, (("a", 300),), 0)), 300)
        self.refused(A, (("a", 301),), 0)
        self.assertEqual(len(worths_of(pair(A, B), (("a", 30), ("b", 10)), 0)), 300)
        self.refused(pair(A, B), (("a", 43), ("b", 7)), 0)
        self.assertEqual(len(worths_of(either(A, B), (("a", 299), ("b", 1)), 0)), 300)
        self.refused(either(A, B), (("a", 300), ("b", 1)), 0)
        self.assertEqual(len(worths_of(many(A), (("a", 299),), 1)), 300)
        self.refused(many(A), (("a", 300),), 1)
        self.assertEqual(len(worths_of(many(A), (("a", 16),), 2)), 273)
        self.refused(many(A), (("a", 17),), 2)
        self.assertEqual(len(worths_of(many(A), (("a", 6),), 3)), 259)
        self.refused(many(A), (("a", 7),), 3)
        self.assertEqual(len(worths_of(many(B), (("b", 1),), 299)), 300)
        self.refused(many(B), (("b", 1),), 300)
        self.assertEqual(len(worths_of(NUM, (), 299)), 300)
        self.refused(NUM, (), 300)
        self.assertEqual(len(worths_of(fun(TRUTH, A), (("a", 17),), 0)), 289)
        self.refused(fun(TRUTH, A), (("a", 18),), 0)
        self.assertEqual(len(worths_of(fun(B, A), (("a", 300), ("b", 1)), 0)), 300)
        self.refused(fun(B, A), (("a", 301), ("b", 1)), 0)

    def test_just_300_and_301_rows(self):
        told = worths_of(fun(A, B), (("a", 300), ("b", 1)), 0)
        self.assertEqual(len(told), 1)
        self.assertEqual(len(told[0][1]), 300)
        self.refused(fun(A, B), (("a", 301), ("b", 1)), 0)
        self.assertEqual(len(worths_of(fun(B, A, B), (("a", 300), ("b", 1)), 0)), 1)
        self.refused(fun(B, A, B), (("a", 301), ("b", 1)), 0)
        self.refused(fun(A, B, B), (("a", 301), ("b", 1)), 0)
        self.refused(fun(either(A, A), many(D)), (("a", 151),), 3)

    def test_a_kind_without_a_table_is_not_refused(self):
        self.check(fun(A, D), (("a", 301),), 0, ())
        self.check(fun(pair(A, A), D), (("a", 1000),), 0, ())
        self.check(fun(A, B, D), (("a", 301), ("b", 1)), 0, ())
        self.check(fun(B, A, D), (("a", 301), ("b", 1)), 0, ())
        self.check(fun(A, D), (("a", 10 ** 12),), 0, ())

    def test_a_table_that_is_not_there_does_not_count(self):
        self.check(fun(D, A, B), (("a", 301), ("b", 1)), 0, (table(),))
        self.check(fun(D, A), (("a", 10 ** 12),), 0, (table(),))
        self.check(fun(D, A, NUM), (("a", 400),), 3, (table(),))

    def test_parts_with_too_many_worths_that_do_not_make_too_many(self):
        self.check(pair(A, D), (("a", 1000),), 0, ())
        self.check(pair(D, A), (("a", 1000),), 0, ())
        self.check(either(pair(A, D), TRUTH), (("a", 1000),), 0, (("right", False), ("right", True)))
        self.check(many(A), (("a", 1000),), 0, (("list", ()),))
        self.check(many(pair(A, D)), (("a", 1000),), 3, (("list", ()),))

    def test_far_too_many(self):
        kind = NUM
        for level in range(5):
            kind = pair(kind, many(kind))
        self.refused(kind, (), 3)
        self.refused(fun(A, A), (("a", 10 ** 12),), 0)
        self.refused(many(A), (("a", 10 ** 12),), 3)

    def test_nothing_is_changed(self):
        unchanged = Unchanged(self)
        for kind in (A, many(A), fun(A, B, TRUTH), pair(NUM, either(A, B))):
            self.assertIsInstance(unchanged.ask(worths_of, kind, SIZES, 2), tuple)


if __name__ == "__main__":
    unittest.main()
