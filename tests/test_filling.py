import unittest

from kindalone.checking import kind_of
from kindalone.filling import filled_kind, filled_term
from kindalone.kinds import is_kind, opens_in
from kindalone.terms import is_term
from tests.samples import A, B, C, NUM, TRUTH, Unchanged, call, either, fun, many, name, pair

ONE = ("num", 1)
O = ("open", "o")
P = ("open", "p")


def built(item, own, inner):
    return ("built", item, own, "c", "n", inner)


def in_one_way(thing, names=()):
    """The term with builts' own names numbered by how far they are within: which they are is then no matter."""
    if not isinstance(thing, tuple):
        return thing
    if len(thing) == 6 and thing[0] == "built":
        word, item, own, x, y, inner = thing
        deep = f"own {len(names)}"
        return (word, in_one_way(item, names), deep, x, y, in_one_way(inner, (*names, (own, deep))))
    if len(thing) == 2 and thing[0] == "open":
        return ("open", dict(names).get(thing[1], thing[1]))
    return tuple(in_one_way(part, names) for part in thing)


def own_names(thing):
    if not isinstance(thing, tuple):
        return []
    own = [thing[2]] if len(thing) == 6 and thing[0] == "built" else []
    return own + [found for part in thing for found in own_names(part)]


class Kinds(unittest.TestCase):
    def test_one_fill(self):
        self.assertEqual(filled_kind(A, (("a", NUM),)), NUM)
        put = pair(NUM, B)
        self.assertEqual(filled_kind(fun(A, many(A), B), (("a", put),)), fun(put, many(put), B))
        told = fun(fun(A, TRUTH), either(A, TRUTH))
        self.assertEqual(filled_kind(fun(fun(A, B), either(A, B)), (("b", TRUTH),)), told)

    def test_no_fill_and_other_names(self):
        for kind in (A, NUM, fun(fun(A, B), pair(A, many(C)))):
            self.assertEqual(filled_kind(kind, ()), kind)
            self.assertEqual(filled_kind(kind, (("d", NUM), ("z", A))), kind)

    def test_all_at_once(self):
        self.assertEqual(filled_kind(fun(A, B, C), (("a", B), ("b", A))), fun(B, A, C))
        self.assertEqual(filled_kind(pair(A, B), (("a", many(A)), ("b", pair(A, B)))), pair(many(A), pair(A, B)))
        self.assertEqual(filled_kind(A, (("a", B), ("b", C))), B)

    def test_what_is_filled_may_be_filled_again(self):
        kind = fun(A, A)
        for time in range(60):
            kind = filled_kind(kind, (("a", many(many(A))),))
        self.assertTrue(is_kind(kind))
        self.assertEqual(opens_in(kind), ("a",))

    def test_nothing_is_changed(self):
        Unchanged(self).ask(filled_kind, fun(A, many(B)), (("a", NUM), ("b", many(A))))


class Terms(unittest.TestCase):
    def check(self, term, fills, expected):
        self.assertEqual(filled_term(term, fills), expected)
        self.assertTrue(is_term(expected))

    def check_but_for_own_names(self, term, fills, expected, *unused):
        told = filled_term(term, fills)
        self.assertTrue(is_term(told))
        self.assertEqual(in_one_way(told), in_one_way(expected))
        for own in own_names(told):
            self.assertNotIn(own, unused)
        return told

    def test_each_kind_in_a_term(self):
        fills = (("a", many(NUM)),)
        full = many(NUM)
        for term, expected in (
            (("fun", "x", A, name("x")), ("fun", "x", full, name("x"))),
            (("fun", "x", fun(A, B, A), ONE), ("fun", "x", fun(full, B, full), ONE)),
            (("left", ONE, A), ("left", ONE, full)),
            (("right", A, ONE), ("right", full, ONE)),
            (("none", pair(A, B)), ("none", pair(full, B))),
            (("fault", A), ("fault", full)),
            (built(A, "o", name("n")), built(full, "o", name("n"))),
            (built(NUM, "o", ("fault", A)), built(NUM, "o", ("fault", full))),
            (("told", "f", (("a", A), ("b", either(A, B)))), ("told", "f", (("a", full), ("b", either(full, B))))),
        ):
            self.check(term, fills, expected)

    def test_each_term_within(self):
        one, other = ("none", A), ("none", NUM)
        for make in (
            lambda t: ("fun", "x", B, t), lambda t: ("call", t, t), lambda t: ("plus", t, t), lambda t: ("less", t, t),
            lambda t: ("if", t, t, t), lambda t: ("pair", t, t), lambda t: ("first", t), lambda t: ("second", t),
            lambda t: ("left", t, B), lambda t: ("right", B, t), lambda t: ("case", t, "x", t, "y", t),
            lambda t: ("more", t, t), lambda t: ("fold", t, t, "x", "y", t), lambda t: built(B, "o", t),
            lambda t: ("alike", t, t), lambda t: ("rounds", 7, t, "x", t),
        ):
            self.check(make(one), (("a", NUM),), make(other))
            self.check(make(one), (), make(one))
            self.check(make(one), (("b", B), ("z", NUM)), make(one))

    def test_terms_without_kinds_stay(self):
        for term in (name("a"), ONE, ("truth", True), ("told", "a", ()), ("plus", name("a"), name("b"))):
            self.check(term, (("a", NUM), ("b", TRUTH)), term)

    def test_several_at_once(self):
        term = ("fun", "a", A, ("fun", "b", B, ("pair", ("none", pair(A, B)), ("fault", C))))
        self.check(term, (("a", B), ("b", many(A))),
                   ("fun", "a", B, ("fun", "b", many(A), ("pair", ("none", pair(B, many(A))), ("fault", C)))))

    def test_a_builts_own_name_stays(self):
        term = built(NUM, "o", call(("fun", "k", O, name("k")), name("n")))
        self.check(term, (("o", NUM),), term)
        self.check(term, (("a", NUM), ("o", many(A))), term)
        # Beside the built the same name stands for another one, which is filled.
        self.check(("pair", ("none", O), term), (("o", NUM),), ("pair", ("none", NUM), term))
        self.check(built(NUM, "o", ("pair", ("none", O), ("none", A))), (("a", TRUTH), ("o", NUM)),
                   built(NUM, "o", ("pair", ("none", O), ("none", TRUTH))))

    def test_an_own_name_that_is_in_no_kind_put_in_stays(self):
        term = built(NUM, "o", call(("fun", "k", O, name("k")), name("n")))
        self.check(term, (("a", O),), term)
        self.check(("pair", term, ("none", B)), (("a", O), ("b", NUM)), ("pair", term, ("none", NUM)))
        # Here a is the own name of another built.
        other = built(NUM, "a", ("fault", A))
        self.check(("pair", term, other), (("a", O),), ("pair", term, other))

    def test_an_own_name_in_a_kind_put_in_is_another_one(self):
        term = built(A, "o", call(("fun", "k", O, name("k")), name("n")))
        expected = built(O, "q", call(("fun", "k", ("open", "q"), name("k")), name("n")))
        told = self.check_but_for_own_names(term, (("a", O),), expected, "o", "a")
        self.assertEqual(kind_of(told, ()), many(O))
        inside = built(NUM, "o", call(("fun", "k", A, name("n")), ("fault", A)))
        expected = built(NUM, "q", call(("fun", "k", O, name("n")), ("fault", O)))
        told = self.check_but_for_own_names(inside, (("a", O),), expected, "o", "a")
        self.assertEqual(kind_of(told, ()), many(NUM))

    def test_a_kind_put_in_at_a_told_one(self):
        known = (("f", (), fun(A, B, B)),)
        told_one = ("told", "f", (("a", A), ("b", O)))
        term = built(NUM, "o", call(told_one, ("fault", A), name("n")))
        told = filled_term(term, (("a", O),))
        self.assertNotIn("o", own_names(told))
        self.assertEqual(kind_of(told, (), known), many(NUM))
        alone = built(NUM, "o", ("told", "f", (("a", A), ("b", O), ("own", NUM), ("owna", NUM))))
        told = filled_term(alone, (("a", many(O)),))
        new = own_names(told)[0]
        self.assertNotIn(new, ("o", "a", "b", "own", "owna"))
        fills = (("a", many(O)), ("b", ("open", new)), ("own", NUM), ("owna", NUM))
        self.assertEqual(told, built(NUM, new, ("told", "f", fills)))

    def test_a_kind_put_in_around_it(self):
        term = ("fun", "x", A, built(NUM, "o", call(("fun", "k", O, name("k")), name("n"))))
        expected = ("fun", "x", many(O), built(NUM, "q", call(("fun", "k", ("open", "q"), name("k")), name("n"))))
        told = self.check_but_for_own_names(term, (("a", many(O)),), expected, "o", "a")
        self.assertEqual(kind_of(told, ()), fun(many(O), many(NUM)))

    def test_the_other_name_is_unused(self):
        # What would be taken first is in use already: around, within, in what is put in.
        first = own_names(filled_term(built(A, "o", name("n")), (("a", O),)))[0]
        second = own_names(filled_term(built(A, "o", name("n")), (("a", pair(O, ("open", first))),)))[0]
        self.assertEqual(len({first, second, "o"}), 3)
        for used in (first, second):
            busy = ("open", used)
            for term, fills in (
                (("fun", "x", busy, built(A, "o", name("n"))), (("a", O),)),
                (built(A, "o", call(("fun", "k", busy, name("n")), ("fault", busy))), (("a", O),)),
                (built(A, "o", name("n")), (("a", pair(O, busy)),)),
                (built(A, "o", call(("fun", "k", many(NUM), name("n")), ("built", NUM, used, "d", "m", name("m")))),
                 (("a", O),)),
                (("fun", "x", B, built(A, "o", name("n"))), (("a", O), ("b", busy))),
            ):
                told = filled_term(term, fills)
                outer = [own for own in own_names(told) if own != used]
                self.assertEqual(len(outer), 1, told)
                self.assertNotEqual(outer[0], "o")
                self.assertEqual(kind_of(told, ()), filled_kind(kind_of(term, ()), fills))

    def test_names_that_are_used_up(self):
        kind = O
        for used in range(100):
            told = filled_term(built(A, "o", name("n")), (("a", kind),))
            self.assertTrue(is_term(told))
            own = own_names(told)[0]
            self.assertNotIn(own, opens_in(kind))
            kind = pair(("open", own), kind)
        self.assertEqual(len(opens_in(kind)), 101)

    def test_builts_within_builts(self):
        inner = ("built", A, "p", "d", "m", call(("fun", "k", P, ("fun", "j", O, name("k"))), name("m"), name("n")))
        term = built(NUM, "o", call(("fun", "k", many(A), name("n")), inner))
        self.assertEqual(kind_of(term, ()), many(NUM))
        self.check(term, (("o", NUM), ("p", NUM)), term)
        for put in (O, P, pair(O, P), many(B), either(P, many(O))):
            fills = (("a", put), ("o", NUM), ("p", TRUTH))
            told = filled_term(term, fills)
            self.assertTrue(is_term(told))
            self.assertEqual(kind_of(told, ()), many(NUM))
            within = ("built", put, "s", "d", "m",
                      call(("fun", "k", ("open", "s"), ("fun", "j", ("open", "r"), name("k"))), name("m"), name("n")))
            expected = built(NUM, "r", call(("fun", "k", many(put), name("n")), within))
            self.assertEqual(in_one_way(told), in_one_way(expected))
            self.assertEqual(len(set(own_names(told))), 2)
            for own in own_names(told):
                self.assertNotIn(own, opens_in(put))

    def test_one_own_name_twice(self):
        inner = ("built", A, "o", "d", "m", call(("fun", "k", O, name("k")), name("m")))
        hidden = call(("fun", "c", NUM, ("fun", "n", NUM, inner)), ONE, ONE)
        term = built(NUM, "o", call(("fun", "k", many(A), ("fun", "j", O, name("j"))), hidden, name("n")))
        self.assertEqual(kind_of(term, ()), many(NUM))
        told = filled_term(term, (("a", O),))
        self.assertEqual(kind_of(told, ()), many(NUM))
        self.assertNotIn("o", own_names(told))

    def test_a_filled_term_has_its_kind_filled(self):
        put_on = call(name("c"), call(name("f"), name("i")), name("k"))
        mapping = built(B, "o", ("fold", name("x"), name("n"), "i", "k", put_on))
        terms = (
            ("fun", "f", fun(A, B), ("fun", "x", many(A), mapping)),
            ("fun", "x", many(A), built(A, "own", ("fold", name("x"), name("n"), "i", "k", name("k")))),
            ("fun", "x", A, ("left", name("x"), many(B))),
        )
        for term in terms:
            kind = kind_of(term, ())
            for one in (NUM, A, B, O, pair(O, B), many(("open", "own"))):
                for other in (TRUTH, A, O, either(O, ("open", "owna"))):
                    fills = (("a", one), ("b", other))
                    self.assertEqual(kind_of(filled_term(term, fills), ()), filled_kind(kind, fills))

    def test_nothing_is_changed(self):
        term = built(A, "o", call(("fun", "k", O, name("k")), name("n")))
        for fills in ((), (("a", O),), (("a", NUM), ("o", A))):
            Unchanged(self).ask(filled_term, term, fills)


if __name__ == "__main__":
    unittest.main()
