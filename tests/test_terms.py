import unittest

from kindalone.terms import TERM_FORMS, is_term
from tests.samples import A, B, NUM, TRUTH, WRONG, Unchanged, either, fun, many, name, nested, pair, replaced

S = name("s")
T = ("num", 3)
U = ("fault", A)
# Each word of a term, right, and what each of its parts is to be.
RIGHT = (
    (("name", "x"), "x"),
    (("fun", "x", A, T), "xat"),
    (("fun", "x", fun(A, NUM, B), T), "xat"),
    (("call", S, T), "tt"),
    (("num", 0), "k"),
    (("num", 10 ** 6), "k"),
    (("plus", S, T), "tt"),
    (("less", S, T), "tt"),
    (("truth", True), "b"),
    (("truth", False), "b"),
    (("if", S, T, U), "ttt"),
    (("pair", S, T), "tt"),
    (("first", T), "t"),
    (("second", T), "t"),
    (("left", T, many(A)), "td"),
    (("right", pair(A, NUM), T), "dt"),
    (("case", S, "x", T, "y", U), "txtxt"),
    (("case", S, "x", T, "x", U), "txtxt"),
    (("none", either(A, TRUTH)), "d"),
    (("more", S, T), "tt"),
    (("fold", S, T, "x", "y", U), "ttxxt"),
    (("built", NUM, "o", "x", "y", T), "dxxxt"),
    (("built", NUM, "x", "x", "y", T), "dxxxt"),
    (("built", NUM, "y", "x", "y", T), "dxxxt"),
    (("alike", S, T), "tt"),
    (("fault", TRUTH), "d"),
    (("rounds", 1, S, "x", T), "rtxt"),
    (("rounds", 30, S, "x", T), "rtxt"),
    (("told", "f", ()), "xf"),
    (("told", "f", (("a", NUM),)), "xf"),
    (("told", "f", (("a", NUM), ("ab", many(A)), ("b", NUM))), "xf"),
)
NAMES_WRONG = ("", "abcdefghi", "X", "x1", "x ", " x", "x\n", "x_", None, 1, True, ("x",), ["x"], {}, ())
KINDS_WRONG = (None, (), [], {}, "num", ("nums",), ["num"], ("open", "A"), many(fun(A, A)), 1, True, ("list", ["num"]))
WRONG_PARTS = {
    "x": NAMES_WRONG,
    "a": KINDS_WRONG + (fun(fun(A, A), A), fun(A, fun(A, A), A)),
    "d": KINDS_WRONG + (fun(A, A),),
    "t": WRONG + (True, False, 0, 1, A, NUM, TRUTH, many(A), ["name", "x"], ("name", "X")),
    "k": (-1, True, False, None, "0", (0,), [0], ()),
    "b": (0, 1, None, "yes", "no", (True,), [True], ()),
    "r": (0, 31, -1, 10 ** 6, True, False, None, "1", (1,), []),
    "f": (None, [], {}, "", 0, (("b", NUM), ("a", NUM)), (("a", NUM), ("a", NUM)), (("a", NUM), ("a", TRUTH)),
          [("a", NUM)], (["a", NUM],), (("a", NUM, NUM),), (("a",),), ((),), ("a", NUM), (("A", NUM),), (("", NUM),),
          (("a", fun(A, A)),), (("a", ["num"]),), (("a", None),), ((NUM, "a"),), ((1, NUM),), (None,), (("b", A), None),
          (("a", NUM), ("c", NUM), ("b", NUM)), {"a": NUM}),
}


class Terms(unittest.TestCase):
    def test_each_word_stands_here(self):
        self.assertEqual(len({term[0] for term, roles in RIGHT}), 22)
        self.assertEqual({term[0] for term, roles in RIGHT}, set(TERM_FORMS))

    def test_right(self):
        for term, roles in RIGHT:
            self.assertIs(is_term(term), True, term)

    def test_each_part_wrong(self):
        for term, roles in RIGHT:
            self.assertEqual(len(roles), len(term) - 1)
            for at, role in enumerate(roles, start=1):
                for part in WRONG_PARTS[role]:
                    self.assertIs(is_term(replaced(term, at, part)), False, (term, at, part))

    def test_a_part_left_out_or_one_too_many(self):
        for term, roles in RIGHT:
            for at in range(len(term)):
                self.assertIs(is_term(term[:at] + term[at + 1:]), False, (term, at))
            for part in (T, "x", NUM, 1, (), None):
                self.assertIs(is_term(term + (part,)), False, (term, part))

    def test_other_words_and_lists(self):
        for term, roles in RIGHT:
            self.assertIs(is_term(list(term)), False)
            for word in ("", "names", "NAME", "open", "list", "thing", None, 1, True, ("name",), ["name"], {}):
                self.assertIs(is_term(replaced(term, 0, word)), False, (term, word))

    def test_x_and_y_alike(self):
        self.assertIs(is_term(("fold", S, T, "x", "x", U)), False)
        self.assertIs(is_term(("built", NUM, "o", "x", "x", T)), False)
        self.assertIs(is_term(("built", NUM, "o", "o", "o", T)), False)

    def test_rounds(self):
        for turns, held in ((0, False), (1, True), (2, True), (29, True), (30, True), (31, False), (True, False)):
            self.assertIs(is_term(("rounds", turns, S, "x", T)), held, turns)

    def test_wrong_things(self):
        for thing in WRONG + (True, False, 0, 1, A, many(A), fun(A, A)):
            self.assertIs(is_term(thing), False, thing)

    def test_as_deep_and_wide_as_anything_may_be(self):
        self.assertIs(is_term(nested(T, "first", 28)), True)
        self.assertIs(is_term(nested(["num", 3], "first", 28)), False)
        term = T
        for level in range(8):
            term = ("pair", term, term)
        self.assertIs(is_term(term), True)
        self.assertIs(is_term(("fun", "x", nested(A, "list", 27), T)), True)
        self.assertIs(is_term(("num", 10 ** 40 - 1)), True)

    def test_a_fault_far_within(self):
        for wrong in (("num", True), ("name", "X"), ("rounds", 31, T, "x", T), ("fold", T, T, "x", "x", T)):
            for term, roles in RIGHT:
                for at, role in enumerate(roles, start=1):
                    if role == "t":
                        self.assertIs(is_term(("first", replaced(term, at, ("second", wrong)))), False)

    def test_nothing_is_changed(self):
        unchanged = Unchanged(self)
        for thing in (["name", ["x"]], ("told", "f", [("a", NUM)]), {"name": ["x"]}) + tuple(row[0] for row in RIGHT):
            unchanged.ask(is_term, thing)


if __name__ == "__main__":
    unittest.main()
