import itertools
import unittest

from kindalone.ties import saying_of, tied, tied_by
from kindalone.worths import worths_of
from tests.samples import A, B, C, NUM, TRUTH, Unchanged, either, fun, items, many, pair, table, thing
from tests.slow import slow_tied

A0, A1, A2 = thing("a", 0), thing("a", 1), thing("a", 2)
B0, B1 = thing("b", 0), thing("b", 1)
FAULT = ("fault",)
SAME = ("same",)
# Of a: 0 with 1, 1 with 0 and 1, 2 at the right with none; of b: 0 with 0 alone.
SETTING = (("a", 2, 3, ((0, 1), (1, 0), (1, 1))), ("b", 2, 1, ((0, 0),)))
KEPT = (("a", 2, 2, ((0, 1), (1, 0))),)


class Ties(unittest.TestCase):
    def check(self, held, kind, one, other, setting=SETTING):
        unchanged = Unchanged(self)
        self.assertIs(unchanged.ask(tied, kind, setting, one, other), held, (kind, one, other))
        self.assertIs(unchanged.ask(tied_by, saying_of(kind), setting, one, other), held, (kind, one, other))

    def yes(self, kind, one, other, setting=SETTING):
        self.check(True, kind, one, other, setting)

    def no(self, kind, one, other, setting=SETTING):
        self.check(False, kind, one, other, setting)

    def test_things(self):
        for left in range(2):
            for right in range(3):
                held = (left, right) in ((0, 1), (1, 0), (1, 1))
                self.check(held, A, thing("a", left), thing("a", right))
        self.yes(B, B0, B0)
        self.no(B, B1, B0)
        # What is tied at the left and the right is not so the other way round.
        self.no(B, B0, B1)

    def test_a_name_without_pairs(self):
        self.no(C, thing("c", 0), thing("c", 0))
        self.no(C, thing("c", 0), thing("c", 0), (("c", 1, 1, ()),))
        self.no(A, A0, A0, ())

    def test_numbers_and_truths(self):
        self.yes(NUM, 3, 3)
        self.no(NUM, 3, 4)
        self.no(NUM, 0, 1)
        self.yes(NUM, 10 ** 30, 10 ** 30)
        self.yes(TRUTH, True, True)
        self.no(TRUTH, True, False)
        self.yes(NUM, 3, 3, ())

    def test_pairs(self):
        kind = pair(A, NUM)
        self.yes(kind, ("pair", A0, 2), ("pair", A1, 2))
        self.no(kind, ("pair", A0, 2), ("pair", A1, 3))
        self.no(kind, ("pair", A0, 2), ("pair", A0, 2))
        self.no(pair(NUM, A), ("pair", 2, A0), ("pair", 2, A0))
        self.yes(pair(NUM, A), ("pair", 2, A0), ("pair", 2, A1))
        self.yes(pair(A, B), ("pair", A1, B0), ("pair", A0, B0))
        self.no(pair(A, B), ("pair", A1, B1), ("pair", A0, B0))

    def test_eithers(self):
        kind = either(A, B)
        self.yes(kind, ("left", A1), ("left", A0))
        self.no(kind, ("left", A0), ("left", A0))
        self.yes(kind, ("right", B0), ("right", B0))
        self.no(kind, ("right", B1), ("right", B0))
        self.no(kind, ("left", A1), ("right", B0))
        self.no(kind, ("right", B0), ("left", A0))
        self.no(either(A, A), ("left", A1), ("right", A1))
        self.yes(either(A, NUM), ("right", 4), ("right", 4))
        self.no(either(NUM, NUM), ("left", 4), ("right", 4))

    def test_lists(self):
        kind = many(A)
        self.yes(kind, items(), items())
        self.yes(kind, items(A0, A1), items(A1, A0))
        self.yes(kind, items(A1, A1), items(A1, A0))
        self.no(kind, items(A0, A1), items(A1, A2))
        self.no(kind, items(A0), items())
        self.no(kind, items(), items(A0))
        self.no(kind, items(A0, A1), items(A1))
        self.no(kind, items(A1), items(A1, A0))
        self.yes(many(NUM), items(1, 2), items(1, 2))
        self.no(many(NUM), items(1, 2), items(2, 1))
        self.no(many(NUM), items(1), items(1, 1))
        self.yes(many(many(A)), items(items(A0), items()), items(items(A1), items()))

    def test_tables_of_arguments_tied_to_several(self):
        kind = fun(A, NUM)
        # 0 is tied with 1; 1 with 0 and 1: by 1 at the right all tell the same. 2 at the right is tied with none.
        self.yes(kind, table((A0, 5), (A1, 5)), table((A0, 5), (A1, 5), (A2, 9)))
        self.no(kind, table((A0, 5), (A1, 6)), table((A0, 6), (A1, 5), (A2, 9)))
        self.no(kind, table((A0, 5), (A1, 5)), table((A0, 6), (A1, 5), (A2, 9)))
        self.no(kind, table((A0, 6), (A1, 5)), table((A0, 5), (A1, 5), (A2, 9)))

    def test_tables_of_arguments_tied_to_none(self):
        self.yes(fun(B, NUM), table((B0, 5), (B1, 6)), table((B0, 5)))
        self.no(fun(B, NUM), table((B0, 6), (B1, 5)), table((B0, 5)))
        self.yes(fun(A, NUM), table((A0, 1)), table((A0, 2)), (("a", 1, 1, ()),))
        self.yes(fun(C, NUM), table(), table())
        self.yes(fun(A, NUM), table(), table((A0, 2)), (("a", 0, 1, ()),))

    def test_tables_with_faults(self):
        kind = fun(B, NUM)
        self.yes(kind, table((B0, FAULT), (B1, 6)), table((B0, FAULT)))
        self.no(kind, table((B0, FAULT), (B1, 6)), table((B0, 5)))
        self.no(kind, table((B0, 5), (B1, 6)), table((B0, FAULT)))
        self.yes(kind, table((B0, 5), (B1, FAULT)), table((B0, 5)))
        self.no(fun(B, A), table((B0, FAULT), (B1, A0)), table((B0, A1)))
        self.yes(fun(B, A), table((B0, A0), (B1, A0)), table((B0, A1)))
        for kind, worth in ((pair(A, NUM), ("pair", A1, 3)), (either(A, NUM), ("left", A1)), (many(A), items(A1))):
            self.yes(fun(B, kind), table((B0, FAULT), (B1, worth)), table((B0, FAULT)))
            self.yes(fun(B, kind), table((B0, worth), (B1, FAULT)), table((B0, worth)))
            self.no(fun(B, kind), table((B0, FAULT), (B1, worth)), table((B0, worth)))
            self.no(fun(B, kind), table((B0, worth), (B1, worth)), table((B0, FAULT)))
        self.yes(fun(TRUTH, NUM), table((False, FAULT), (True, 1)), table((False, FAULT), (True, 1)))
        self.no(fun(TRUTH, NUM), table((False, FAULT), (True, 1)), table((False, 1), (True, FAULT)))

    def test_tables_of_more_arguments(self):
        kind = fun(A, TRUTH, A)
        one = table((A0, table((False, A1), (True, FAULT))), (A1, table((False, A0), (True, FAULT))))
        other = table((A0, table((False, A1), (True, FAULT))), (A1, table((False, A0), (True, FAULT))))
        self.yes(kind, one, other, KEPT)
        self.no(kind, one, table((A0, table((False, A1), (True, FAULT))), (A1, table((False, A1), (True, FAULT)))), KEPT)
        self.no(kind, one, table((A0, table((False, A1), (True, FAULT))), (A1, table((False, A0), (True, A0)))), KEPT)

    def test_makers(self):
        kind = fun(A, A)
        self.yes(kind, ("maker", 0, 1), ("maker", 0, 1))
        self.no(kind, ("maker", 0, 1), ("maker", 1, 1))
        self.no(kind, ("maker", 0, 1), table((A0, A0)), (("a", 1, 1, ()),))
        self.no(kind, table((A0, A0)), ("maker", 0, 1), (("a", 1, 1, ()),))
        self.no(kind, table(), ("maker", 0, 1), ())
        self.no(kind, ("maker", 0, 1), table(), ())

    def test_made_ones(self):
        self.yes(B, ("made", 1, (A0,)), ("made", 1, (A1,)))
        self.no(B, ("made", 1, (A0,)), ("made", 1, (A0,)))
        self.no(B, ("made", 1, (A0,)), ("made", 2, (A1,)))
        self.yes(B, ("made", 1, (A0, True)), ("made", 1, (A1, True)))
        self.no(B, ("made", 1, (A0, True)), ("made", 1, (A1, False)))
        self.no(B, ("made", 1, (A0,)), ("made", 1, (A1, A1)))
        self.no(B, ("made", 1, (B0,)), ("made", 1, (A0,)))
        self.no(B, ("made", 1, (A1,)), ("made", 1, (B0,)))
        self.no(B, ("made", 0, (B0,)), B0)
        self.no(B, B0, ("made", 0, (B0,)))
        self.yes(A, ("made", 0, (("made", 0, (A1,)),)), ("made", 0, (("made", 0, (A0,)),)))
        self.no(A, ("made", 0, (("made", 0, (A1,)),)), ("made", 0, (A1,)))
        self.no(A, ("made", 0, (("made", 0, (A1,)),)), ("made", 0, (("made", 2, (A1,)),)))
        self.yes(A, ("made", 0, (("pair", A1, ("left", A0)),)), ("made", 0, (("pair", A0, ("left", A1)),)))
        self.no(A, ("made", 0, (("pair", A1, ("left", A1)),)), ("made", 0, (("pair", A0, ("right", A1)),)))
        self.yes(many(A), items(("made", 0, (A1,)), A1), items(("made", 0, (A0,)), A0))
        self.no(many(A), items(("made", 0, (A1,)), A0), items(("made", 0, (A0,)), A0))

    def test_deep_made_ones(self):
        one, other, wrong = A0, A1, A2
        for level in range(199):
            one, other, wrong = [("made", 3, (worth,)) for worth in (one, other, wrong)]
        self.assertIs(tied(A, SETTING, one, other), True)
        self.assertIs(tied(A, SETTING, one, wrong), False)

    def test_tables_of_many_rows(self):
        five = A
        for level in range(4):
            five = pair(A, five)
        full = (("a", 3, 3, tuple((left, right) for left in range(3) for right in range(3))), ("b", 1, 1, ((0, 0),)))
        kind = fun(five, five, B)
        one = worths_of(kind, (("a", 3), ("b", 1)), 0)[0]
        self.assertEqual(len(one[1]), 243)
        self.assertIs(tied(kind, full, one, one), True)
        inner = one[1][242][1][1]
        last = table(*one[1][:242], (one[1][242][0], table(*inner[:242], (inner[242][0], FAULT))))
        self.assertIs(tied(kind, full, one, last), False)
        self.assertIs(tied(kind, full, last, one), False)
        kept = (("a", 3, 3, ((0, 0), (1, 1), (2, 2))), ("b", 1, 1, ((0, 0),)))
        self.assertIs(tied(kind, kept, last, last), True)
        self.assertIs(tied(kind, kept, one, last), False)

    def test_by_other_means(self):
        kinds = (A, B, pair(A, B), either(A, TRUTH), many(A), many(pair(A, TRUTH)), fun(A, B), fun(A, TRUTH),
                 fun(B, A), fun(TRUTH, A), fun(A, B, A), fun(either(A, B), TRUTH), fun(pair(B, B), A))
        settings = (SETTING, (("a", 2, 2, ((0, 0), (1, 1))), ("b", 1, 1, ((0, 0),))), (("a", 1, 2, ((0, 0), (0, 1))),
                    ("b", 2, 2, ((0, 0), (1, 0), (1, 1)))), (("a", 2, 2, ()), ("b", 0, 2, ())))
        seen = {True: 0, False: 0}
        for kind, setting in itertools.product(kinds, settings):
            lefts = worths_of(kind, tuple((x, m) for x, m, n, pairs in setting), 2)[:40]
            rights = worths_of(kind, tuple((x, n) for x, m, n, pairs in setting), 2)[:40]
            saying = saying_of(kind)
            for one, other in itertools.product(lefts, rights):
                held = slow_tied(kind, setting, one, other)
                self.assertIs(tied(kind, setting, one, other), held, (kind, setting, one, other))
                self.assertIs(tied_by(saying, setting, one, other), held)
                seen[held] += 1
        self.assertGreater(min(seen.values()), 400)


class Sayings(unittest.TestCase):
    def check(self, saying, kind):
        self.assertEqual(Unchanged(self).ask(saying_of, kind), saying)

    def test_without_an_open_name(self):
        for kind in (NUM, TRUTH, pair(NUM, TRUTH), either(NUM, many(TRUTH)), many(NUM), fun(NUM, NUM), fun(TRUTH, NUM),
                     fun(fun(TRUTH, NUM), many(NUM), NUM)):
            self.check(SAME, kind)

    def test_with_one(self):
        self.check(("tied", "a"), A)
        self.check(("tied", "longname"), ("open", "longname"))
        self.check(("both", ("tied", "a"), SAME), pair(A, NUM))
        self.check(("both", SAME, ("tied", "b")), pair(many(NUM), B))
        self.check(("sides", SAME, ("tied", "a")), either(TRUTH, A))
        self.check(("items", ("tied", "a")), many(A))
        self.check(("items", ("items", ("both", ("tied", "a"), ("tied", "b")))), many(many(pair(A, B))))
        self.check(("leads", ("tied", "a"), SAME), fun(A, TRUTH))
        self.check(("leads", SAME, ("tied", "a")), fun(TRUTH, A))

    def test_of_functions(self):
        self.check(("leads", ("leads", ("tied", "a"), SAME), ("leads", ("items", ("tied", "a")), ("items", ("tied", "a")))),
                   fun(fun(A, TRUTH), many(A), many(A)))
        # What leads on without an open name is a part without one.
        self.check(("leads", SAME, ("leads", ("tied", "a"), SAME)), fun(NUM, A, many(NUM), NUM))
        self.check(("leads", SAME, ("leads", SAME, ("tied", "a"))), fun(NUM, many(NUM), A))
        self.check(("leads", ("leads", ("tied", "a"), SAME), SAME), fun(fun(A, TRUTH, NUM), TRUTH, NUM))
        self.check(("leads", ("leads", ("tied", "a"), ("leads", ("tied", "b"), ("tied", "b"))), ("tied", "b")),
                   fun(fun(A, B, B), B))

    def test_deep_ones(self):
        kind, saying = A, ("tied", "a")
        for level in range(58):
            kind, saying = many(kind), ("items", saying)
        self.check(saying, kind)


if __name__ == "__main__":
    unittest.main()
