import unittest

from kindalone.checking import kind_of
from kindalone.errors import TooMuch
from kindalone.moving import mapped, moved
from kindalone.running import run
from tests.randomterms import Terms
from tests.samples import (A, B, NUM, TOO_MUCH, TRUTH, Unchanged, binding, call, either, fun, items, many, name, num, pair,
                           table, thing)
from tests.slow import arguments
from tests.test_running import random_worth

A0, A1, A2 = thing("a", 0), thing("a", 1), thing("a", 2)
B0, B1 = thing("b", 0), thing("b", 1)
X, Y = name("x"), name("y")
FAULT = ("fault",)
TURNED = (("a", table((A0, A1), (A1, A2), (A2, A0))),)
ALL_TO_ONE = (("a", table((A0, A1), (A1, A1), (A2, A1))),)
FAULTING = (("a", table((A0, A1), (A1, FAULT), (A2, A0))),)
BOTH = (TURNED[0], ("b", table((B0, B1), (B1, FAULT))))


def worth(told):
    return ("worth", told)


class Mapped(unittest.TestCase):
    def check(self, outcome, kind, maps, told):
        self.assertEqual(repr(Unchanged(self).ask(mapped, kind, maps, told)), repr(outcome))

    def test_each_data_kind(self):
        self.check(worth(A1), A, TURNED, A0)
        self.check(worth(A0), A, TURNED, A2)
        self.check(worth(5), NUM, TURNED, 5)
        self.check(worth(True), TRUTH, TURNED, True)
        self.check(worth(False), TRUTH, (), False)
        self.check(worth(("pair", A1, 1)), pair(A, NUM), TURNED, ("pair", A0, 1))
        self.check(worth(("pair", A2, A0)), pair(A, A), TURNED, ("pair", A1, A2))
        self.check(worth(("left", A1)), either(A, NUM), TURNED, ("left", A0))
        self.check(worth(("right", 0)), either(A, NUM), TURNED, ("right", 0))
        self.check(worth(("right", A1)), either(NUM, A), TURNED, ("right", A0))
        self.check(worth(items()), many(A), TURNED, items())
        self.check(worth(items(A1, A1, A0)), many(A), TURNED, items(A0, A0, A2))
        deep = many(pair(either(A, B), many(A)))
        self.check(worth(items(("pair", ("left", A1), items(A2)), ("pair", ("right", B1), items()))), deep, BOTH,
                   items(("pair", ("left", A0), items(A1)), ("pair", ("right", B0), items())))

    def test_all_to_one(self):
        self.check(worth(items(A1, A1, A1)), many(A), ALL_TO_ONE, items(A0, A1, A2))

    def test_several_names(self):
        self.check(worth(("pair", A1, B1)), pair(A, B), BOTH, ("pair", A0, B0))
        self.check(FAULT, pair(A, B), BOTH, ("pair", A0, B1))

    def test_faults(self):
        self.check(FAULT, A, FAULTING, A1)
        self.check(worth(A1), A, FAULTING, A0)
        self.check(FAULT, many(A), FAULTING, items(A0, A2, A1))
        self.check(FAULT, pair(NUM, either(A, NUM)), FAULTING, ("pair", 1, ("left", A1)))
        self.check(worth(("pair", 1, ("right", 1))), pair(NUM, either(A, NUM)), FAULTING, ("pair", 1, ("right", 1)))
        self.check(worth(items()), many(A), FAULTING, items())

    def test_more_things_than_there_are_of_another_size(self):
        wide = (("a", table(*[(thing("a", k), thing("a", 9 - k)) for k in range(10)])),)
        self.check(worth(items(thing("a", 9), A0)), many(A), wide, items(A0, thing("a", 9)))


class Moved(unittest.TestCase):
    def check(self, ahead, behind, term, maps, *args):
        kind_of(term, ())
        told = Unchanged(self).ask(moved, term, maps, args)
        self.assertEqual(repr(told), repr((ahead, behind)))

    def test_both_the_same(self):
        self.check(worth(A1), worth(A1), binding(X, x=A), TURNED, A0)
        copied = binding(("fold", X, ("none", A), "x", "y", ("more", X, Y)), x=many(A))
        self.check(worth(items(A1, A2)), worth(items(A1, A2)), copied, TURNED, items(A0, A1))
        self.check(worth(items(A1, A1)), worth(items(A1, A1)), copied, ALL_TO_ONE, items(A0, A2))
        self.check(worth(3), worth(3), binding(num(3), x=A), TURNED, A0)
        self.check(worth(4), worth(4), binding(("plus", X, num(1)), x=NUM), (), 3)
        self.check(worth(("pair", B1, A1)), worth(("pair", B1, A1)), binding(("pair", Y, X), x=A, y=B), BOTH, A0, B0)

    def test_a_thing_that_is_thrown_away_faults(self):
        self.check(FAULT, worth(A1), binding(X, x=A, y=A), FAULTING, A0, A1)
        self.check(FAULT, worth(7), binding(num(7), x=many(A)), FAULTING, items(A0, A1))
        self.check(FAULT, FAULT, binding(Y, x=A, y=A), FAULTING, A0, A1)
        self.check(FAULT, worth(A1), binding(X, x=A, y=B), BOTH, A0, B1)
        # No run comes ahead of it: the first one would be too much as well.
        with self.assertRaises(TooMuch):
            moved(binding(TOO_MUCH, x=A), FAULTING, (A1,))

    def test_a_run_that_faults(self):
        self.check(FAULT, FAULT, binding(("fault", A), x=A), TURNED, A0)
        self.check(FAULT, FAULT, binding(("fault", A), x=A), FAULTING, A1)

    def test_too_much_of_either_run(self):
        with self.assertRaises(TooMuch):
            moved(binding(TOO_MUCH, x=A), TURNED, (A0,))
        with self.assertRaises(TooMuch):
            moved(binding(("plus", X, X), x=NUM), (), (10 ** 30,))

    def test_steps_are_not_told(self):
        longer = binding(call(binding(X, x=A), X), x=A)
        self.check(worth(A1), worth(A1), longer, TURNED, A0)

    def test_drawn_functions(self):
        kinds = (fun(A, A, A), fun(many(A), A, many(A)), fun(pair(A, B), either(B, A), many(pair(B, A))),
                 fun(many(A), NUM, either(A, NUM)), fun(either(A, TRUTH), many(B), pair(NUM, many(B))))
        same = faults = 0
        for at, kind in enumerate(kinds):
            for seed in range(60):
                terms = Terms(300 * at + seed, (), seed % 3 == 0)
                term = terms.function(kind, 4)
                sizes = (("a", 3), ("b", 2))
                maps = tuple((x, table(*[(thing(x, k), FAULT if terms.random.random() < 0.1 else
                                          thing(x, terms.random.randrange(size))) for k in range(size)])) for x, size in sizes)
                args = tuple(random_worth(terms, argument, sizes) for argument in arguments(kind))
                try:
                    ahead, behind = moved(term, maps, args)
                except TooMuch:
                    with self.assertRaises(TooMuch):
                        run(term, args)
                    continue
                if ahead[0] == "worth":
                    self.assertEqual(repr(ahead), repr(behind), (term, maps, args))
                    same += 1
                else:
                    faults += 1
        self.assertGreater(min(same, faults), 40)


if __name__ == "__main__":
    unittest.main()
