import unittest

from kindalone.checking import kind_of
from kindalone.errors import TooMuch
from kindalone.rounding import more_rounds
from kindalone.running import run
from kindalone.terms import is_term
from tests.randomterms import Terms
from tests.samples import A, NUM, TRUTH, Unchanged, binding, call, either, fun, many, name, num, pair
from tests.slow import arguments
from tests.test_running import count_to, random_worth

X = name("x")


def rounds(turns, begun=num(0), turn=("right", NUM, X)):
    return ("rounds", turns, begun, "x", turn)


class MoreRounds(unittest.TestCase):
    def check(self, expected, term, by):
        told = Unchanged(self).ask(more_rounds, term, by)
        self.assertEqual(told, expected)
        self.assertTrue(is_term(told))
        self.assertEqual(repr(told), repr(expected))

    def test_turns(self):
        for turns in range(1, 31):
            for by in (0, 1, 2, 10, 29, 30, 31, 10 ** 30):
                self.check(rounds(min(turns + by, 30)), rounds(turns), by)

    def test_nothing_else(self):
        for term in (num(5), binding(X, x=A), ("plus", num(3), num(30)), ("built", NUM, "o", "c", "n", name("n"))):
            self.check(term, term, 7)

    def test_rounds_in_rounds(self):
        inner = rounds(2)
        self.check(rounds(8, rounds(7), ("right", NUM, rounds(30))), rounds(3, inner, ("right", NUM, rounds(28))), 5)

    def test_at_each_place(self):
        for way in (
            lambda t: ("fun", "x", NUM, t), lambda t: ("call", t, t), lambda t: ("plus", t, t), lambda t: ("less", t, t),
            lambda t: ("if", t, t, t), lambda t: ("pair", t, t), lambda t: ("first", t), lambda t: ("second", t),
            lambda t: ("left", t, NUM), lambda t: ("right", NUM, t), lambda t: ("case", t, "x", t, "y", t),
            lambda t: ("more", t, t), lambda t: ("fold", t, t, "x", "y", t), lambda t: ("built", NUM, "o", "x", "y", t),
            lambda t: ("alike", t, t), lambda t: ("rounds", 30, t, "x", t),
        ):
            self.check(way(rounds(6)), way(rounds(1)), 5)

    def test_what_had_a_worth_has_the_same(self):
        for turns in (1, 5, 29, 30):
            for by in (0, 1, 30):
                self.assertEqual(run(count_to(turns, turns), ()), run(more_rounds(count_to(turns, turns), by), ()))
        # What faulted for want of turns has a worth then.
        self.assertEqual(run(count_to(5, 4), ())[0], "fault")
        self.assertEqual(run(more_rounds(count_to(5, 4), 0), ())[0], "fault")
        self.assertEqual(run(more_rounds(count_to(5, 4), 1), ()), ("worth", 4, 5))

    def test_drawn_functions(self):
        seen = 0
        for at, kind in enumerate((fun(A, NUM, A), fun(many(A), many(A)), fun(NUM, NUM, either(NUM, TRUTH)),
                                   fun(pair(A, NUM), many(NUM), pair(NUM, A)))):
            for seed in range(150):
                terms = Terms(90 * at + seed)
                term = terms.function(kind, 4)
                args = tuple(random_worth(terms, argument, (("a", 2),)) for argument in arguments(kind))
                by = terms.random.randrange(0, 32)
                told = more_rounds(term, by)
                self.assertEqual(kind_of(told, ()), kind)
                try:
                    outcome = run(term, args)
                except TooMuch:
                    continue
                if outcome[0] == "worth":
                    self.assertEqual(repr(run(told, args)), repr(outcome))
                    seen += "rounds" in repr(term)
        self.assertGreater(seen, 30)

    def test_a_call(self):
        self.check(call(binding(rounds(3), x=NUM), rounds(4)), call(binding(rounds(1), x=NUM), rounds(2)), 2)


if __name__ == "__main__":
    unittest.main()
