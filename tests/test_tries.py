import unittest

from kindalone.errors import KindError, TooMany, Unbounded
from kindalone.kinds import arguments_of, is_walked
from kindalone.tries import tries_of, unbounded_at
from tests.samples import A, B, C, NUM, TRUTH, Unchanged, either, fun, items, many, pair, table, thing
from tests.slow import slow_tries

A0, A1, A2 = thing("a", 0), thing("a", 1), thing("a", 2)
B0, B1 = thing("b", 0), thing("b", 1)
D = ("open", "d")
FIVE = either(NUM, B)
TWO_HUNDRED = pair(pair(FIVE, FIVE), pair(NUM, TRUTH))


def row_of(kind, many_of_it):
    """The data kind with so many of a kind in a row of pairs."""
    told = kind
    for at in range(many_of_it - 1):
        told = pair(kind, told)
    return told


def fives_and(many_bs):
    """Data with five things of a and so many of b."""
    return pair(row_of(A, 5), row_of(B, many_bs))


class UnboundedAt(unittest.TestCase):
    def check(self, number, kind, looked=()):
        self.assertTrue(is_walked(kind))
        told = Unchanged(self).ask(unbounded_at, kind, looked)
        self.assertEqual(told, number, (kind, looked))
        if number is not None:
            self.assertNotIsInstance(told, bool)
            with self.assertRaises(Unbounded) as caught:
                tries_of(kind, looked, 0)
            self.assertEqual(caught.exception.argument, number)
        else:
            self.assertIsInstance(tries_of(kind, looked, 0), tuple)

    def test_data_arguments(self):
        self.check(None, fun(A, A))
        self.check(None, fun(A, A), ("a",))
        self.check(None, fun(many(A), pair(NUM, B), either(TRUTH, A), A), ("a", "b"))

    def test_makers(self):
        self.check(None, fun(fun(A, A), A, A))
        self.check(None, fun(A, fun(A, A), A))
        self.check(None, fun(fun(TRUTH, A), A))
        self.check(None, fun(fun(B, A), fun(A, B), B, A))
        self.check(None, fun(fun(A, B, pair(A, B), B), A, B))
        self.check(None, fun(fun(A, A), fun(A, A), A))

    def test_makers_of_looked_names(self):
        self.check(0, fun(fun(A, A), A, A), ("a",))
        self.check(1, fun(A, fun(A, A), A), ("a",))
        self.check(1, fun(A, fun(TRUTH, A), A), ("a", "b"))
        self.check(None, fun(fun(A, A), A, A), ("b",))
        self.check(None, fun(fun(A, B), A, B), ("a",))
        self.check(0, fun(fun(A, B), A, B), ("b",))
        self.check(1, fun(fun(A, B), fun(B, A), A, B), ("a",))

    def test_askers(self):
        for result in (TRUTH, NUM, pair(NUM, TRUTH), either(TRUTH, TRUTH), either(NUM, pair(TRUTH, NUM))):
            self.check(None, fun(fun(A, result), A, A))
            self.check(None, fun(A, fun(A, result), A), ("a",))
            self.check(None, fun(fun(A, B, result), A, A), ("a", "b"))
            self.check(None, fun(fun(TRUTH, result), A, A))

    def test_those_that_are_neither(self):
        for result in (many(TRUTH), many(A), pair(A, TRUTH), pair(TRUTH, A), either(A, NUM), either(TRUTH, B),
                       pair(NUM, many(NUM)), either(many(TRUTH), TRUTH), pair(A, A), many(many(NUM))):
            self.check(0, fun(fun(A, result), A, A))
            self.check(1, fun(A, fun(A, result), A))
            self.check(2, fun(A, fun(A, TRUTH), fun(TRUTH, result), A), ("a",))
            self.check(0, fun(fun(A, B, result), A, A))

    def test_a_made_name_in_an_asker(self):
        self.check(1, fun(fun(A, A), fun(A, TRUTH), A, A))
        self.check(0, fun(fun(A, TRUTH), fun(A, A), A, A))
        self.check(1, fun(fun(A, A), fun(B, A, TRUTH), A, A))
        self.check(1, fun(fun(A, A), fun(pair(B, either(TRUTH, A)), TRUTH), A, A))
        self.check(None, fun(fun(A, A), fun(B, TRUTH), A, B, A))
        self.check(None, fun(fun(B, A), fun(B, TRUTH), A, B, A))
        # Made by an argument that has no thing to begin with.
        self.check(0, fun(fun(A, TRUTH), A, fun(TRUTH, A), A))

    def test_the_first_one_is_told(self):
        self.check(1, fun(fun(A, TRUTH), fun(A, many(A)), fun(A, many(A)), A))
        self.check(0, fun(fun(A, many(A)), fun(B, B), A, B), ("b",))
        self.check(0, fun(fun(B, B), fun(A, many(A)), A, B), ("b",))
        self.check(1, fun(fun(B, B), fun(A, many(A)), A, B))
        self.check(0, fun(fun(B, TRUTH), fun(B, B), A, B), ("b",))
        # A looked name's maker makes it a made one, so that its asker is neither, however late it comes.
        self.check(2, fun(B, A, fun(B, TRUTH), fun(B, B), B), ("b",))


class TriesOf(unittest.TestCase):
    def check(self, tries, kind, looked=(), bound=0):
        told = Unchanged(self).ask(tries_of, kind, looked, bound)
        self.assertIsInstance(told, tuple)
        self.assertEqual(sorted(map(repr, told)), sorted(map(repr, tries)))

    def many(self, number, kind, looked=(), bound=0):
        told = tries_of(kind, looked, bound)
        self.assertEqual(len(told), number)
        self.assertEqual(len({repr(one) for one in told}), number)

    def refused(self, kind, looked=(), bound=0):
        with self.assertRaises(TooMany):
            tries_of(kind, looked, bound)

    def test_great_bounds(self):
        self.many(200, fun(NUM, NUM), bound=199)
        self.many(200, fun(many(A), A), bound=199)
        self.many(200, fun(either(many(A), many(B)), A), bound=99)
        for bound in (200, 201, 10 ** 39):
            for data in (NUM, many(A), many(NUM), pair(TRUTH, NUM), either(many(A), TRUTH), many(many(A))):
                self.refused(fun(data, A), bound=bound)
            self.refused(fun(A, fun(A, NUM), A), bound=bound)
            self.check([(A0, False), (A0, True)], fun(A, TRUTH, A), bound=bound)

    def test_things_have_the_next_number(self):
        self.check([(A0,)], fun(A, A))
        self.check([(A0, A1)], fun(A, A, A))
        self.check([(A0, B0, A1)], fun(A, B, A, A))
        self.check([(("pair", A0, B0), ("pair", B1, A1))], fun(pair(A, B), pair(B, A), A))
        self.check([(items(), A0), (items(A0), A1), (items(A0, A1), A2)], fun(many(A), A, A), bound=2)
        self.check([(A0, items()), (A0, items(A1)), (A0, items(A1, A2))], fun(A, many(A), A), bound=2)
        self.check([(("left", A0), A1), (("right", B0), A0)], fun(either(A, B), A, A))

    def test_looked_ones_may_have_come_ahead(self):
        self.check([(A0,)], fun(A, A), ("a",))
        self.check([(A0, A0), (A0, A1)], fun(A, A, A), ("a",))
        self.check([(A0, A0, A0), (A0, A0, A1), (A0, A1, A0), (A0, A1, A1), (A0, A1, A2)], fun(A, A, A, A), ("a",))
        self.check([(A0, B0, A0, B1), (A0, B0, A1, B1)], fun(A, B, A, B, A), ("a",))
        self.check([(A0, B0, A1, B0), (A0, B0, A1, B1)], fun(A, B, A, B, A), ("b",))
        self.check([(A0, A1)], fun(A, A, A), ("b",))
        self.check([(items(),), (items(A0),), (items(A0, A0),), (items(A0, A1),)], fun(many(A), A), ("a",), 2)
        self.many(1 + 1 + 2 + 5, fun(many(A), A), ("a",), 3)

    def test_numbers_and_truths(self):
        for bound in range(4):
            self.check([(number,) for number in range(bound + 1)], fun(NUM, A), (), bound)
        self.check([(False,), (True,)], fun(TRUTH, A))
        self.check([(False, 0), (False, 1), (True, 0), (True, 1)], fun(TRUTH, NUM, A), (), 1)
        self.check([(items(),), (items(0),), (items(1),)], fun(many(NUM), A), (), 1)

    def test_makers(self):
        self.check([(("maker", 0, 1), A0)], fun(fun(A, A), A, A))
        self.check([(A0, ("maker", 1, 2))], fun(A, fun(A, B, B), B))
        self.check([(("maker", 0, 1), A0, ("maker", 2, 3), A1)], fun(fun(A, A), A, fun(TRUTH, A, B, A), A, A))
        self.check([(("maker", 0, 1),)], fun(fun(TRUTH, A), A))
        self.check([(("maker", 0, 1), items()), (("maker", 0, 1), items(A0))], fun(fun(A, B), many(A), many(B)), (), 1)

    def test_askers(self):
        self.check([(table(), items()), (table((A0, False)), items(A0)), (table((A0, True)), items(A0))],
                   fun(fun(A, TRUTH), many(A), A), (), 1)
        self.check([(items(), table()), (items(A0), table((A0, False))), (items(A0), table((A0, True)))],
                   fun(many(A), fun(A, TRUTH), A), (), 1)
        # By as many things as came in all data arguments, behind it, too.
        self.many(8, fun(A, fun(A, TRUTH), pair(A, A), A))
        self.many(4, fun(A, fun(A, TRUTH), pair(A, B), A))
        self.check([(A0, table((A0, 0), (A1, 0)), A1)], fun(A, fun(A, NUM), A, A))
        self.many(4, fun(A, fun(A, NUM), A, A), (), 1)
        self.many(16, fun(A, fun(A, NUM), A, A), (), 3)
        # Of a looked name those that are alike came once.
        self.check([(A0, A0, table((A0, False))), (A0, A0, table((A0, True)))] + [
            (A0, A1, table((A0, one), (A1, other))) for one in (False, True) for other in (False, True)],
            fun(A, A, fun(A, TRUTH), A), ("a",))
        self.check([(table((False, 0), (True, 0)),)], fun(fun(TRUTH, NUM), A))
        self.check([(table(),)], fun(fun(A, NUM), A), (), 3)

    def test_askers_of_more_arguments(self):
        kind = fun(fun(A, B, TRUTH), A, B, B, A)
        self.many(4, kind)
        self.assertIn((table((A0, table((B0, False), (B1, True)))), A0, B0, B1), tries_of(kind, (), 0))
        self.check([(table(), B0)], fun(fun(A, B, TRUTH), B, A))
        self.check([(table((A0, table())), A0)], fun(fun(A, B, TRUTH), A, A))

    def test_askers_and_makers(self):
        self.check([(("maker", 0, 1), table((B0, False)), B0, A0), (("maker", 0, 1), table((B0, True)), B0, A0)],
                   fun(fun(B, A), fun(B, TRUTH), B, A, A))

    def test_by_other_means(self):
        kinds = (
            (fun(A, A, A), 2), (fun(many(A), A, A), 4), (fun(many(A), many(A), A), 6), (fun(either(A, B), many(B), A), 4),
            (fun(fun(A, TRUTH), many(A), A), 3), (fun(fun(A, NUM), A, B, A, A), 2), (fun(pair(A, B), many(either(A, B)), A), 4),
            (fun(fun(B, A), many(B), A, A), 3), (fun(fun(A, B, TRUTH), A, B, A), 1), (fun(fun(A, TRUTH), fun(B, TRUTH), A,
                                                                                         either(A, B), A), 2),
            (fun(NUM, many(TRUTH), A, A), 1), (fun(fun(either(A, TRUTH), NUM), either(A, NUM), A), 1),
            (fun(many(many(A)), A), 4),
        )
        seen = 0
        for kind, most in kinds:
            for looked in ((), ("a",), ("b",), ("a", "b")):
                for bound in range(3):
                    if unbounded_at(kind, looked) is None and not (most > 4 and bound > 1):
                        seen += self.by_other_means(kind, looked, bound, most)
        self.assertGreater(seen, 900)

    def by_other_means(self, kind, looked, bound, most):
        tries = slow_tries(kind, looked, bound, most)
        if len(tries) > 200:
            self.refused(kind, looked, bound)
            return 0
        self.check(tries, kind, looked, bound)
        return len(tries)

    def test_just_two_hundred(self):
        self.many(200, fun(TWO_HUNDRED, A), (), 3)
        self.refused(fun(either(TWO_HUNDRED, B), A), (), 3)
        self.many(200, fun(pair(FIVE, FIVE), NUM, TRUTH, A), (), 3)
        self.refused(fun(pair(FIVE, FIVE), NUM, TRUTH, TRUTH, A), (), 3)
        # 67 worths, twice and three times.
        self.many(134, fun(either(pair(NUM, pair(NUM, NUM)), either(B, TRUTH)), TRUTH, A), (), 3)
        self.refused(fun(either(pair(NUM, pair(NUM, NUM)), either(B, TRUTH)), either(TRUTH, B), A), (), 3)

    def test_just_two_hundred_by_tables(self):
        self.many(128, fun(fun(A, TRUTH), row_of(A, 7), A))
        self.refused(fun(fun(A, TRUTH), row_of(A, 8), A))
        self.many(6 * 6 * 4, fun(fun(A, either(NUM, TRUTH)), A, A, NUM, A), (), 3)
        # A hundred tables, twice; and a hundred for each of three.
        self.many(200, fun(fun(TRUTH, pair(FIVE_PLAIN, TRUTH)), TRUTH, A), (), 2)
        self.refused(fun(fun(TRUTH, pair(FIVE_PLAIN, TRUTH)), either(TRUTH, A), A), (), 2)
        self.many(128 + 64, fun(fun(A, TRUTH), row_of(A, 6), either(A, B), A))
        self.refused(fun(fun(A, TRUTH), fun(B, TRUTH), row_of(A, 6), pair(B, B), A))

    def test_a_table_of_just_three_hundred_rows(self):
        asker = fun(pair(A, pair(A, B)), NUM)
        told = tries_of(fun(asker, fives_and(12), A), (), 0)
        self.assertEqual(len(told), 1)
        self.assertEqual(len(told[0][0][1]), 300)
        self.refused(fun(asker, fives_and(13), A))
        self.refused(fun(asker, fives_and(12), B, A))
        # A table within a table.
        inner = fun(TRUTH, pair(A, pair(A, B)), NUM)
        told = tries_of(fun(inner, fives_and(12), A), (), 0)
        self.assertEqual(len(told[0][0][1][1][1][1]), 300)
        self.refused(fun(inner, fives_and(13), A))
        # One that is not there.
        self.many(1, fun(fun(D, pair(A, pair(A, B)), NUM), fives_and(13), A))
        # 6 times 6 times 6 rows, and 7 times 7 times 7.
        self.many(1, fun(fun(pair(B, pair(B, B)), NUM), row_of(B, 6), A))
        self.refused(fun(fun(pair(B, pair(B, B)), NUM), row_of(B, 7), A))

    def test_far_too_many(self):
        self.refused(fun(row_of(TRUTH, 25), A))
        self.refused(fun(row_of(A, 25), A), ("a",))
        kind = TRUTH
        for level in range(50):
            kind = many(kind)
        self.refused(fun(kind, A), (), 3)
        self.many(52, fun(kind, A), (), 1)
        self.many(1, fun(kind, A), (), 0)
        self.refused(fun(fun(pair(A, pair(A, A)), TRUTH), row_of(A, 20), A))
        self.refused(fun(row_of(many(A), 10), A), (), 1)
        self.many(1, fun(row_of(many(row_of(TRUTH, 10)), 2), A), (), 0)

    def test_unbounded_ahead_of_too_many(self):
        kind = fun(row_of(TRUTH, 12), fun(A, many(A)), A, A)
        with self.assertRaises(Unbounded) as caught:
            tries_of(kind, (), 3)
        self.assertEqual(caught.exception.argument, 1)
        self.assertIsInstance(caught.exception, KindError)
        self.assertNotIsInstance(caught.exception, TooMany)

    def test_as_many_arguments_as_the_kind(self):
        kind = fun(fun(A, A), NUM, fun(B, TRUTH), B, A)
        for one in tries_of(kind, (), 1):
            self.assertIsInstance(one, tuple)
            self.assertEqual(len(one), len(arguments_of(kind)))

    def test_another_open_name_in_the_result(self):
        self.check([(A0,)], fun(A, many(C)))


# Of bound 2, five worths without a thing.
FIVE_PLAIN = either(NUM, TRUTH)


if __name__ == "__main__":
    unittest.main()
