import itertools
import unittest

from kindalone.checking import kind_of
from kindalone.errors import TooMany, TooMuch, Unbounded
from kindalone.kinds import opens_in
from kindalone.looks import leak_of
from kindalone.running import run
from kindalone.settings import is_setting
from kindalone.ties import tied
from kindalone.tries import tries_of
from tests.randomterms import Terms
from tests.samples import (A, B, NUM, TOO_MUCH, TRUTH, Unchanged, binding, call, either, fun, many, name, num, pair,
                           table, thing)
from tests.slow import arguments, last_of, slow_cases, slow_told, slow_worths, things_in

A0, A1 = thing("a", 0), thing("a", 1)
B0, B1 = thing("b", 0), thing("b", 1)
X, Y, Z, F, G = name("x"), name("y"), name("z"), name("f"), name("g")
LOOK = ("a",)
ALIKE = binding(("alike", X, Y), x=A, y=A)
GREAT = pair(pair(NUM, NUM), pair(NUM, NUM))
UNBOUNDED = fun(A, many(A))


def mapped_things(worth, pairs):
    """A data worth with each thing led on; pairs tell where, by name and number."""
    if not isinstance(worth, tuple):
        return worth
    if worth[0] == "thing":
        return ("thing", worth[1], pairs[worth[1], worth[2]])
    if worth[0] == "list":
        return ("list", tuple(mapped_things(item, pairs) for item in worth[1]))
    return (worth[0], *[mapped_things(part, pairs) for part in worth[1:]])


def told_by(told, asked, kind):
    """What a table tells of an argument."""
    rows = [answer for worth, answer in told[1] if repr(worth) == repr(asked)]
    assert len(rows) == 1, (told, asked, kind)
    return rows[0]


class LeakCase(unittest.TestCase):
    def leak(self, term, looked=LOOK, bound=0, rights=None):
        """What is told is a leak, by each of point 23's words."""
        kind = kind_of(term, looked)
        setting, left, right = told = Unchanged(self).ask(leak_of, term, looked, bound)
        self.assertIsInstance(told, tuple)
        tries = {repr(tried) for tried in tries_of(kind, looked, bound)}
        self.assertIn(repr(left), tries)
        self.assertIn(repr(right), tries)
        self.assertTrue(is_setting(setting))
        self.assertEqual(tuple(row[0] for row in setting), opens_in(kind))
        kinds = arguments(kind)
        data = [at for at, argument in enumerate(kinds) if argument[0] != "fun"]
        lefts = [one for at in data for one in things_in(left[at])]
        others = [one for at in data for one in things_in(right[at])]
        self.assertEqual(len(lefts), len(set(lefts)))
        pairs = {(one[1], one[2]): other[2] for one, other in zip(lefts, others)}
        for x, many_left, many_right, told_pairs in setting:
            self.assertEqual(many_left, len([one for one in lefts if one[1] == x]))
            self.assertEqual(many_right, len({one for one in others if one[1] == x}))
            self.assertEqual(told_pairs, tuple((at, pairs[x, at]) for at in range(many_left)))
        for at, argument in enumerate(kinds):
            self.argument(argument, setting, pairs, left[at], right[at])
        one, other = run(term, left), run(term, right)
        self.assertFalse(slow_told(last_of(kind), setting, one[1] if one[0] == "worth" else ("fault",),
                                   other[1] if other[0] == "worth" else ("fault",)))
        if rights is not None:
            self.assertIn(right, rights)
        return told

    def argument(self, kind, setting, pairs, left, right):
        """An argument at the left leads to the one at the right, and is tied with it."""
        if kind[0] != "fun":
            self.assertEqual(mapped_things(left, pairs), right)
            self.assertTrue(tied(kind, setting, left, right))
        elif left[0] == "maker":
            self.assertEqual(left, right)
        else:
            self.assertTrue(tied(kind, setting, left, right))
            sizes = tuple((row[0], row[1]) for row in setting)
            self.assertEqual([worth for worth, answer in left[1]], slow_worths(kind[1], sizes, 0))
            for worth, answer in left[1]:
                there = told_by(right, mapped_things(worth, pairs), kind)
                if kind[2][0] == "fun":
                    self.argument(kind[2], setting, pairs, answer, there)
                else:
                    self.assertEqual(repr(answer), repr(there))


class Leaks(LeakCase):
    def none(self, term, looked=LOOK, bound=0):
        self.assertIsNone(Unchanged(self).ask(leak_of, term, looked, bound))

    def refused(self, error, term, looked=LOOK, bound=0):
        with self.assertRaises(error) as caught:
            leak_of(term, looked, bound)
        return caught.exception

    def test_one_that_leaks(self):
        self.assertEqual(self.leak(ALIKE), ((("a", 2, 1, ((0, 0), (1, 0))),), (A0, A1), (A0, A0)))
        chosen = binding(("if", ("alike", X, Y), num(1), num(2)), x=A, y=A)
        self.leak(chosen, rights=[(A0, A0)])
        faulting = binding(("if", ("alike", X, Y), ("fault", A), X), x=A, y=A)
        self.leak(faulting, rights=[(A0, A0)])
        other = binding(("if", ("alike", X, Y), X, ("fault", A)), x=A, y=A)
        self.leak(other, rights=[(A0, A0)])

    def test_one_that_looks_and_does_not_leak(self):
        # Whatever it sees it tells the same, or what is the same there.
        self.none(binding(("if", ("alike", X, Y), X, Y), x=A, y=A))
        self.none(binding(("if", ("alike", X, Y), Y, X), x=A, y=A))
        self.none(binding(("if", ("alike", X, Y), X, X), x=A, y=A))
        self.none(binding(("if", ("alike", X, X), num(1), num(2)), x=A))
        self.none(binding(("if", ("alike", X, Y), call(binding(X, x=A), X), X), x=A, y=A))
        self.none(binding(("if", ("alike", X, Y), ("fault", A), ("fault", A)), x=A, y=A))
        self.leak(binding(("if", ("alike", X, Y), X, Z), x=A, y=A, z=A), rights=[(A0, A0, A1)])
        self.none(binding(("if", ("alike", X, Y), ("pair", X, Y), ("pair", X, Y)), x=A, y=A))

    def test_one_that_does_not_look(self):
        for looked in ((), LOOK):
            self.none(binding(X, x=A, y=A), looked)
            self.none(binding(X, x=many(A)), looked, 3)
            self.none(binding(("fault", NUM), x=A), looked)
            self.none(binding(("plus", X, num(1)), x=NUM), looked, 3)
            self.none(binding(call(F, X), f=fun(A, TRUTH), x=A), looked)
        self.none(binding(call(F, X), f=fun(A, A), x=A), ())

    def test_names_and_counts(self):
        three = binding(("alike", X, Z), x=A, y=A, z=A)
        self.leak(three, rights=[(A0, A0, A0), (A0, A1, A0)])
        mixed = binding(("alike", X, Z), x=A, y=B, z=A, u=B)
        setting, left, right = self.leak(mixed, ("a", "b"))
        self.assertEqual(left, (A0, B0, A1, B1))
        self.assertEqual(right[:3:2], (A0, A0))
        # b is not looked at: its things are all unlike on both sides.
        self.assertEqual(self.leak(mixed)[1:], ((A0, B0, A1, B1), (A0, B0, A0, B1)))
        self.assertEqual(self.leak(mixed)[0], (("a", 2, 1, ((0, 0), (1, 0))), ("b", 2, 2, ((0, 0), (1, 1)))))
        self.none(binding(X, x=B, y=B), ("b",))

    def test_an_open_name_without_things(self):
        told = binding(("pair", ("alike", X, Y), ("none", B)), x=A, y=A)
        self.assertEqual(self.leak(told)[0], (("a", 2, 1, ((0, 0), (1, 0))), ("b", 0, 0, ())))
        asking = binding(("alike", X, Y), f=fun(B, TRUTH), x=A, y=A)
        self.assertEqual(self.leak(asking)[1:], ((table(), A0, A1), (table(), A0, A0)))

    def test_lists_pairs_and_eithers(self):
        paired = binding(("alike", ("first", X), ("second", X)), x=pair(A, A))
        self.assertEqual(self.leak(paired)[1:], ((("pair", A0, A1),), (("pair", A0, A0),)))
        sides = binding(("case", X, "u", ("alike", name("u"), Y), "v", ("truth", True)), x=either(A, NUM), y=A)
        self.assertEqual(self.leak(sides)[1:], ((("left", A0), A1), (("left", A0), A0)))
        counted = ("fold", X, num(0), "u", "v", ("if", ("alike", name("u"), Y), ("plus", name("v"), num(1)), name("v")))
        self.none(binding(counted, x=many(A), y=A), LOOK, 0)
        for bound in (1, 2, 3):
            self.leak(binding(counted, x=many(A), y=A), LOOK, bound)
        # It leaks at lists of two items alone.
        long = ("fold", X, num(0), "u", "v", ("plus", name("v"), num(1)))
        two = binding(("if", ("less", long, num(2)), num(0), counted), x=many(A), y=A)
        self.none(two, LOOK, 1)
        self.leak(two, LOOK, 2)

    def test_askers(self):
        asking = binding(("if", call(F, X), ("alike", X, Y), ("truth", True)), f=fun(A, TRUTH), x=A, y=A)
        setting, left, right = self.leak(asking)
        self.assertEqual(right, (table((A0, True)), A0, A0))
        self.assertEqual(left, (table((A0, True), (A1, True)), A0, A1))
        # Of three things, two of them alike.
        told = binding(("if", call(F, Z), ("alike", X, Y), ("if", call(F, X), ("alike", X, Y), ("truth", False))),
                       f=fun(A, TRUTH), x=A, y=A, z=A)
        setting, left, right = self.leak(told)
        self.assertEqual(len(left[0][1]), 3)
        self.assertLess(len(right[0][1]), 3)
        both = binding(("if", ("alike", X, Y), call(F, X, Y), call(F, Y, Y)), f=fun(A, A, NUM), x=A, y=A)
        self.none(both, LOOK, 0)
        self.none(both, LOOK, 1)
        paired = binding(("if", ("alike", X, Y), ("plus", num(1), call(F, ("pair", X, Y))), call(F, ("pair", X, Y))),
                         f=fun(pair(A, A), NUM), x=A, y=A)
        setting, left, right = self.leak(paired)
        self.assertEqual(len(left[0][1]), 4)
        self.assertEqual(len(right[0][1]), 1)
        nested = binding(("if", ("alike", X, Y), ("truth", True), call(F, X, Y)), f=fun(A, A, TRUTH), x=A, y=A)
        setting, left, right = self.leak(nested)
        self.assertEqual(left[0], table((A0, table((A0, False), (A1, False))), (A1, table((A0, False), (A1, False)))))
        either_way = binding(("if", ("alike", X, Y), num(0), call(F, ("left", Y, TRUTH))), f=fun(either(A, TRUTH), NUM),
                             x=A, y=A)
        self.none(either_way)
        self.leak(either_way, LOOK, 1)

    def test_an_asker_that_can_not_tell_what_is_alike_apart(self):
        # The left table tells of both what the right one tells of the one that they lead to.
        told = binding(("if", ("alike", X, Y), ("truth", True), ("if", call(F, X), call(F, Y), ("if", call(F, Y), (
            "truth", False), ("truth", True)))), f=fun(A, TRUTH), x=A, y=A)
        self.none(told)

    def test_makers(self):
        made = binding(("if", ("alike", X, Y), call(F, X), call(F, Y)), f=fun(A, B), x=A, y=A)
        self.none(made)
        leaking = binding(("if", ("alike", X, Y), call(F, X), call(G, Y)), f=fun(A, B), g=fun(A, B), x=A, y=A)
        setting, left, right = self.leak(leaking)
        self.assertEqual(left, (("maker", 0, 1), ("maker", 1, 1), A0, A1))
        self.assertEqual(right, (("maker", 0, 1), ("maker", 1, 1), A0, A0))
        self.none(binding(call(F, X, Y), f=fun(A, A, B), x=A, y=A))
        listed = binding(("more", call(F, X), ("if", ("alike", X, Y), ("none", B), ("more", call(F, Y), ("none", B)))),
                         f=fun(A, B), x=A, y=A)
        self.leak(listed)

    def test_refusals(self):
        self.assertEqual(self.refused(Unbounded, binding(X, x=A, f=UNBOUNDED)).argument, 1)
        self.assertEqual(self.refused(Unbounded, binding(X, f=fun(A, A), x=A)).argument, 0)
        self.refused(TooMany, binding(num(1), x=GREAT), (), 3)
        self.refused(TooMuch, binding(TOO_MUCH, x=NUM), ())
        # Which comes first.
        great = binding(TOO_MUCH, x=GREAT, y=A, f=UNBOUNDED)
        self.assertEqual(self.refused(Unbounded, great, LOOK, 3).argument, 2)
        self.refused(TooMany, binding(TOO_MUCH, x=GREAT, y=A), LOOK, 3)

    def test_too_much_at_any_try(self):
        # At other tries it leaks.
        for number in range(4):
            at_one = ("if", ("less", Z, num(number)), num(9), ("if", ("less", num(number), Z), num(9), TOO_MUCH))
            told = binding(("pair", ("alike", X, Y), at_one), z=NUM, x=A, y=A)
            self.refused(TooMuch, told, LOOK, 3)
            if number:
                self.leak(told, LOOK, number - 1)
        self.refused(TooMuch, binding(("if", ("alike", X, Y), num(1), TOO_MUCH), x=A, y=A))
        self.refused(TooMuch, binding(("if", ("alike", X, Y), TOO_MUCH, num(1)), x=A, y=A))


# Kinds whose tries have an end by these looked names, and which bound is asked.
ENDING = (
    (fun(A, A, A), LOOK, 0),
    (fun(A, A, A, TRUTH), LOOK, 0),
    (fun(many(A), A, many(A)), LOOK, 2),
    (fun(fun(A, TRUTH), A, A, either(A, TRUTH)), LOOK, 0),
    (fun(fun(A, B), A, A, pair(B, A)), LOOK, 0),
    (fun(A, B, pair(A, B), NUM), ("a", "b"), 0),
    (fun(fun(A, NUM), A, A, NUM), LOOK, 1),
)


def settings(names, most):
    """Settings of the names with at most so many things a side, all of them."""
    rows = []
    for lefts in range(most + 1):
        for rights in range(most + 1):
            every = list(itertools.product(range(lefts), range(rights)))
            for length in range(len(every) + 1):
                rows += [(lefts, rights, pairs) for pairs in itertools.combinations(every, length)]
    for chosen in itertools.product(rows, repeat=len(names)):
        yield tuple((x, *row) for x, row in zip(names, chosen))


class LeaksOrKeeps(LeakCase):
    def test_a_function_that_looks_leaks_or_keeps_the_whole_saying(self):
        leaking = keeping = 0
        for at, (kind, looked, bound) in enumerate(ENDING):
            names = opens_in(kind)
            drawn = list(settings(names, 2))
            for seed in range(150):
                terms = Terms(600 * at + seed, looked)
                term = terms.function(kind, 3)
                try:
                    leak = leak_of(term, looked, bound)
                except TooMuch:
                    continue
                if leak is not None:
                    leaking += 1
                    self.assertEqual(self.leak(term, looked, bound), leak)
                    continue
                keeping += 1
                for setting in terms.random.sample(drawn, 4):
                    self.holds(term, kind, setting, bound)
        self.assertGreater(min(leaking, keeping), 30)

    def holds(self, term, kind, setting, bound):
        for case in slow_cases(kind, setting, bound)[:60]:
            left = run(term, tuple(one for one, other in case))
            right = run(term, tuple(other for one, other in case))
            self.assertTrue(slow_told(last_of(kind), setting, left[1] if left[0] == "worth" else ("fault",),
                                      right[1] if right[0] == "worth" else ("fault",)), (term, setting, case))


if __name__ == "__main__":
    unittest.main()
