import unittest

from kindalone.kinds import (arguments_of, is_data, is_first, is_handed, is_kind, is_small, is_walked, opens_in,
                             result_of)
from tests.samples import A, B, C, NUM, TRUTH, WRONG, Unchanged, either, fun, many, nested, pair, replaced

DATA = (
    A, NUM, TRUTH, pair(A, NUM), either(TRUTH, B), many(A), many(many(pair(NUM, either(A, B)))),
    ("open", "z"), ("open", "abcdefgh"), ("open", "open"), ("open", "fun"), nested(NUM, "list", 29),
)
FIRST = (fun(A, A), fun(NUM, many(A), TRUTH), fun(A, B, C, A), fun(many(NUM), pair(A, B)))
TOLD_ALONE = (fun(fun(A, B), B), fun(A, fun(B, A), A), fun(fun(A, B, C), fun(A, B), A, C))
NO_KINDS = (
    fun(fun(fun(A, A), A), A), fun(A, fun(fun(A, A), A), A), fun(fun(A, fun(A, A), A), A), pair(fun(A, A), A),
    pair(A, fun(A, A)), either(fun(A, A), A), either(A, fun(A, A)), many(fun(A, A)), fun(pair(fun(A, A), A), A),
    fun(A, many(fun(A, A))), ("fun", A), ("fun", A, A, A), ("fun", None, A), ("fun", A, None), ("fun", [], A),
    ["fun", A, A], ("fun", ["num"], A), ("fun", A, ["num"]), ("pair", A), ("pair", A, A, A), ["pair", A, A],
    ("pair", A, ["open", "a"]), ("either", A), ("either", A, A, A), ("list", A, A), ("list", [NUM]), ("num", NUM),
    ("truth", True), ("trues",), ("open", "a", "b"), True, False, 0, 1, 7,
)


class Forms(unittest.TestCase):
    def test_data_kinds(self):
        for kind in DATA:
            self.assertIs(is_data(kind), True, kind)
            self.assertIs(is_kind(kind), True, kind)
            self.assertIs(is_first(kind), False, kind)

    def test_told_kinds(self):
        for kind in FIRST + TOLD_ALONE:
            self.assertIs(is_data(kind), False, kind)
            self.assertIs(is_kind(kind), True, kind)
            self.assertIs(is_first(kind), kind in FIRST, kind)

    def test_wrong_things(self):
        for thing in WRONG + NO_KINDS:
            self.assertIs(is_data(thing), False, thing)
            self.assertIs(is_kind(thing), False, thing)
            self.assertIs(is_first(thing), False, thing)

    def test_names(self):
        for text in ("a", "z", "ab", "abcdefgh", "zzzzzzzz"):
            self.assertIs(is_data(("open", text)), True, text)
        for text in ("", "abcdefghi", "A", "aB", "a1", "1", "a b", " a", "a ", "a\n", "\na", "_", "a_", "`", "{", "~"):
            self.assertIs(is_data(("open", text)), False, text)

    def test_each_part_wrong(self):
        for kind in (pair(A, B), either(A, B), many(A), fun(A, B), fun(fun(A, B), B)):
            for at in range(1, len(kind)):
                for thing in WRONG + (True, 0, 5):
                    self.assertIs(is_kind(replaced(kind, at, thing)), False, (kind, at, thing))
                self.assertIs(is_kind(kind[:at] + kind[at + 1:]), False)
            self.assertIs(is_kind(kind + (A,)), False)
            self.assertIs(is_kind(list(kind)), False)

    def test_as_deep_and_wide_as_anything_may_be(self):
        self.assertIs(is_data(nested(A, "list", 28)), True)
        self.assertIs(is_data(nested(["num"], "list", 28)), False)
        kind = A
        for level in range(9):
            kind = pair(kind, kind)
        self.assertIs(is_data(kind), True)
        self.assertIs(is_kind(fun(*[A] * 29)), True)
        self.assertIs(is_kind(fun(*[A] * 28, [])), False)
        self.assertIs(is_data(nested(NUM, "list", 300)), True)


class Sorts(unittest.TestCase):
    def test_small(self):
        for kind in (A, TRUTH, pair(A, TRUTH), either(pair(A, B), TRUTH)):
            self.assertIs(is_small(kind), True, kind)
        for kind in (NUM, many(A), pair(A, NUM), either(many(TRUTH), A), pair(A, pair(A, either(A, NUM))), fun(A, A)):
            self.assertIs(is_small(kind), False, kind)

    def test_handed(self):
        for kind in (fun(A, A), fun(A, NUM), fun(A, many(NUM)), fun(TRUTH, pair(A, B), either(A, B), many(A))):
            self.assertIs(is_handed(kind), True, kind)
        for kind in (A, TRUTH, NUM, fun(NUM, A), fun(A, NUM, A), fun(A, many(A), A), fun(pair(A, NUM), A),
                     fun(fun(A, A), A), fun(A, fun(A, A), A)):
            self.assertIs(is_handed(kind), False, kind)

    def test_walked(self):
        for kind in (fun(A, A), fun(NUM, many(NUM), NUM), fun(fun(A, NUM), many(A), many(NUM)),
                     fun(many(A), fun(A, A, TRUTH), A)):
            self.assertIs(is_walked(kind), True, kind)
        for kind in (A, many(NUM), fun(fun(NUM, A), A), fun(A, fun(many(A), A), A), fun(fun(A, NUM, A), A),
                     fun(fun(A, A), fun(A, NUM, A), A)):
            self.assertIs(is_walked(kind), False, kind)

    def test_arguments_and_result(self):
        for kind in DATA:
            self.assertEqual(arguments_of(kind), ())
            self.assertEqual(result_of(kind), kind)
        kind = fun(NUM, fun(A, B), many(A), pair(B, B))
        self.assertEqual(arguments_of(kind), (NUM, fun(A, B), many(A)))
        self.assertEqual(result_of(kind), pair(B, B))
        self.assertEqual(arguments_of(fun(A, B)), (A,))
        self.assertEqual(result_of(fun(A, B)), B)

    def test_opens(self):
        self.assertEqual(opens_in(NUM), ())
        self.assertEqual(opens_in(fun(NUM, many(TRUTH))), ())
        self.assertEqual(opens_in(A), ("a",))
        self.assertEqual(opens_in(fun(C, A, C, NUM)), ("a", "c"))
        self.assertEqual(opens_in(fun(NUM, either(B, many(A)))), ("a", "b"))
        self.assertEqual(opens_in(fun(fun(("open", "z"), ("open", "ab")), A)), ("a", "ab", "z"))

    def test_nothing_is_changed(self):
        unchanged = Unchanged(self)
        for thing in ([NUM], {"num": [A]}, ("list", ["num"]), fun(fun(A, B), A)):
            unchanged.ask(is_data, thing)
            unchanged.ask(is_kind, thing)
        for kind in DATA + FIRST + TOLD_ALONE:
            for asked in (is_small, is_handed, is_walked, arguments_of, result_of, opens_in):
                unchanged.ask(asked, kind)


if __name__ == "__main__":
    unittest.main()
