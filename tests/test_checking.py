import unittest

from kindalone.checking import kind_of
from kindalone.errors import NoKind
from tests.samples import A, B, C, NUM, TRUTH, Unchanged, binding, call, either, fun, many, name, pair

ONE = ("num", 1)
YES = ("truth", True)
AA = fun(A, A)


class Checking(unittest.TestCase):
    def check(self, kind, term, looked=(), known=None):
        self.assertEqual(kind_of(term, looked, known), kind)
        if known is None:
            self.assertEqual(kind_of(term, looked), kind)

    def refused(self, *terms, looked=(), known=None):
        for term in terms:
            with self.assertRaises(NoKind, msg=term):
                kind_of(term, looked, known)

    def within(self, kind, term, looked=(), **kinds):
        """The kind of a term with names of these kinds around it."""
        self.check(fun(*kinds.values(), kind), binding(term, **kinds), looked)

    def refused_within(self, term, looked=(), **kinds):
        self.refused(binding(term, **kinds), looked=looked)

    def test_names_and_funs(self):
        self.within(A, name("x"), x=A)
        self.within(AA, name("f"), f=AA)
        self.within(A, name("x"), x=A, y=B)
        self.within(B, name("x"), y=A, x=B)
        self.refused(name("x"), ("fun", "x", A, name("y")), ("pair", ("fun", "x", A, name("x")), name("x")))

    def test_the_innermost_counts(self):
        self.check(fun(A, B, B), ("fun", "x", A, ("fun", "x", B, name("x"))))
        self.within(NUM, ("fold", name("x"), ONE, "x", "y", name("x")), x=many(NUM))
        self.refused_within(("plus", name("x"), ONE), x=A)
        # Behind a function that binds x again, the outer one counts.
        self.within(A, call(("fun", "x", NUM, name("y")), ONE), x=NUM, y=A)
        self.within(pair(NUM, A), ("pair", call(("fun", "x", NUM, name("x")), ONE), name("x")), x=A)

    def test_a_fun_of_a_function(self):
        self.check(fun(AA, A, A), binding(call(name("f"), name("x")), f=AA, x=A))
        self.check(fun(A, AA), ("fun", "x", A, ("fun", "y", A, name("x"))))

    def test_call(self):
        self.within(B, call(name("f"), name("x")), f=fun(A, B), x=A)
        self.within(fun(B, C), call(name("f"), name("x")), f=fun(A, B, C), x=A)
        self.within(NUM, call(binding(call(name("g"), ONE), g=fun(NUM, NUM)), name("f")), f=fun(NUM, NUM))
        self.refused_within(call(name("f"), name("x")), f=fun(A, B), x=B)
        self.refused_within(call(name("f"), name("x")), f=fun(many(A), B), x=A)
        self.refused_within(call(name("x"), name("x")), x=A)
        self.refused_within(call(name("f"), name("f")), f=fun(A, B))
        self.refused(call(ONE, ONE))

    def test_numbers_and_truths(self):
        self.check(NUM, ONE)
        self.check(NUM, ("num", 0))
        self.check(TRUTH, YES)
        self.check(TRUTH, ("truth", False))
        self.check(NUM, ("plus", ONE, ("plus", ONE, ONE)))
        self.check(TRUTH, ("less", ONE, ONE))
        for word in ("plus", "less"):
            self.refused((word, YES, ONE), (word, ONE, YES), (word, YES, YES), (word, ONE, ("none", NUM)))
        self.refused(("plus", ("less", ONE, ONE), ONE))

    def test_if(self):
        self.check(NUM, ("if", YES, ONE, ("num", 2)))
        self.within(AA, ("if", YES, name("f"), name("f")), f=AA)
        self.refused(("if", ONE, ONE, ONE), ("if", YES, ONE, YES), ("if", YES, YES, ONE))
        self.refused_within(("if", YES, name("f"), name("x")), f=AA, x=A)
        self.refused_within(("if", name("f"), ONE, ONE), f=AA)

    def test_pairs(self):
        self.check(pair(NUM, TRUTH), ("pair", ONE, YES))
        self.within(A, ("first", name("p")), p=pair(A, B))
        self.within(B, ("second", name("p")), p=pair(A, B))
        self.refused_within(("pair", name("f"), ONE), f=AA)
        self.refused_within(("pair", ONE, name("f")), f=AA)
        for kind in (A, NUM, TRUTH, either(A, B), many(pair(A, B)), fun(A, B)):
            self.refused_within(("first", name("p")), p=kind)
            self.refused_within(("second", name("p")), p=kind)

    def test_eithers(self):
        self.check(either(NUM, A), ("left", ONE, A))
        self.check(either(A, NUM), ("right", A, ONE))
        self.refused_within(("left", name("f"), A), f=AA)
        self.refused_within(("right", A, name("f")), f=AA)

    def test_case(self):
        term = ("case", name("e"), "x", name("x"), "y", call(name("f"), name("y")))
        self.within(A, term, e=either(A, B), f=fun(B, A))
        self.refused_within(term, e=either(A, B), f=fun(B, B))
        self.refused_within(term, e=either(B, B), f=fun(B, A))
        self.refused_within(term, e=either(A, A), f=fun(B, A))
        self.refused_within(term, e=pair(A, B), f=fun(B, A))
        self.within(AA, ("case", name("e"), "x", name("g"), "y", name("g")), e=either(A, B), g=AA)
        self.within(A, ("case", name("x"), "x", name("x"), "x", name("x")), x=either(A, A))
        # Each side's name is bound there alone.
        self.refused_within(("case", name("e"), "x", name("y"), "y", name("y")), e=either(A, A))
        self.refused_within(("case", name("e"), "x", name("x"), "y", name("x")), e=either(A, A))
        self.refused_within(("case", name("x"), "x", name("x"), "y", name("y")), y=either(A, A))

    def test_lists(self):
        self.check(many(A), ("none", A))
        self.check(many(NUM), ("more", ONE, ("none", NUM)))
        self.check(many(many(NUM)), ("more", ("none", NUM), ("none", many(NUM))))
        self.refused(("more", ONE, ("none", TRUTH)), ("more", ONE, ONE), ("more", ("none", NUM), ("none", NUM)))
        self.refused_within(("more", name("f"), ("none", A)), f=AA)
        self.refused_within(("more", name("x"), name("f")), x=A, f=AA)

    def test_fold(self):
        term = ("fold", name("s"), ONE, "x", "y", ("plus", name("y"), ONE))
        self.within(NUM, term, s=many(A))
        self.refused_within(term, s=A)
        self.refused_within(term, s=pair(A, A))
        self.within(NUM, ("fold", name("s"), ONE, "x", "y", ("plus", name("x"), name("y"))), s=many(NUM))
        self.refused_within(("fold", name("s"), ONE, "x", "y", ("plus", name("x"), name("y"))), s=many(TRUTH))
        self.refused_within(("fold", name("s"), ONE, "x", "y", YES), s=many(A))
        self.refused_within(("fold", name("s"), YES, "x", "y", ("plus", name("y"), ONE)), s=many(A))
        self.refused_within(("fold", name("s"), name("f"), "x", "y", name("y")), s=many(A), f=AA)
        self.refused_within(("fold", name("s"), name("y"), "x", "y", name("y")), s=many(A))
        self.refused_within(("fold", name("s"), name("x"), "x", "y", name("y")), s=many(A))

    def test_built(self):
        self.check(many(NUM), ("built", NUM, "o", "c", "n", name("n")))
        self.check(many(NUM), ("built", NUM, "o", "c", "n", call(name("c"), ONE, name("n"))))
        self.within(many(A), ("built", A, "o", "c", "n", call(name("c"), name("x"), name("n"))), x=A)
        self.refused(("built", NUM, "o", "c", "n", ONE), ("built", NUM, "o", "c", "n", name("c")))
        self.refused(("built", NUM, "o", "c", "n", call(name("c"), YES, name("n"))))
        self.refused(("built", NUM, "o", "c", "n", call(name("c"), ONE)))
        self.refused(("built", NUM, "o", "c", "n", call(name("c"), ONE, ONE)))
        self.refused(("built", NUM, "o", "c", "n", ("none", NUM)))
        # Within it its own name may stand in kinds.
        own = ("open", "o")
        self.check(many(NUM), ("built", NUM, "o", "c", "n", call(("fun", "k", own, name("k")), name("n"))))

    def test_builts_own_name(self):
        term = ("built", NUM, "o", "c", "n", name("n"))
        own = ("open", "o")
        self.within(many(NUM), term, x=A, y=fun(A, B))
        for kind in (own, many(own), fun(own, NUM), fun(NUM, own), pair(NUM, either(own, A))):
            self.refused_within(term, x=kind)
            self.refused_within(term, x=kind, y=A)
            # A name that is bound again does not count.
            self.check(fun(kind, A, many(NUM)), ("fun", "x", kind, ("fun", "x", A, term)))
        # Its own x and y do not hide the ones around it.
        self.refused_within(term, c=own)
        self.refused_within(term, n=own)
        self.refused(("built", own, "o", "c", "n", name("n")), ("built", many(own), "o", "c", "n", name("n")))
        self.refused(term, looked=("o",))
        self.refused(term, looked=("a", "o"))
        self.check(many(NUM), term, looked=("a", "p"))
        # A kind beside it, not of a name around it, may have its own name.
        self.check(pair(many(own), many(NUM)), ("pair", ("none", own), term))

    def test_builts_within_builts(self):
        inner = ("built", NUM, "p", "d", "m", call(name("d"), ONE, name("m")))
        self.check(many(many(NUM)), ("built", many(NUM), "o", "c", "n", call(name("c"), inner, name("n"))))
        same = ("built", NUM, "o", "d", "m", name("m"))
        self.refused(("built", many(NUM), "o", "c", "n", call(name("c"), same, name("n"))))
        hidden = binding(same, c=NUM, n=NUM)
        counted = ("fold", call(hidden, ONE, ONE), ONE, "x", "y", name("y"))
        chosen = ("if", ("less", ONE, counted), name("n"), name("n"))
        self.check(many(NUM), ("built", NUM, "o", "c", "n", chosen))

    def test_alike(self):
        term = ("alike", name("x"), name("y"))
        self.within(TRUTH, term, ("a",), x=A, y=A)
        self.within(TRUTH, term, ("a", "b"), x=B, y=B)
        self.refused_within(term, (), x=A, y=A)
        self.refused_within(term, ("b",), x=A, y=A)
        self.refused_within(term, ("a", "b"), x=A, y=B)
        self.refused_within(term, ("a",), x=NUM, y=NUM)
        self.refused_within(term, ("a",), x=many(A), y=many(A))
        self.refused_within(term, ("a",), x=A, y=NUM)
        self.refused_within(term, ("a",), x=NUM, y=A)
        self.refused_within(term, ("a",), x=AA, y=AA)
        self.refused(("built", NUM, "o", "c", "n", ("if", ("alike", name("n"), name("n")), name("n"), name("n"))))

    def test_fault(self):
        self.check(A, ("fault", A))
        self.check(many(pair(A, NUM)), ("fault", many(pair(A, NUM))))
        self.check(NUM, ("plus", ("fault", NUM), ONE))
        self.refused(("plus", ("fault", TRUTH), ONE))

    def test_rounds(self):
        self.within(B, ("rounds", 3, name("s"), "x", call(name("f"), name("x"))), s=A, f=fun(A, either(A, B)))
        self.within(A, ("rounds", 3, name("x"), "x", ("right", A, name("x"))), x=A)
        for kind in (fun(A, either(B, A)), fun(B, either(A, B)), fun(A, pair(A, B)), fun(A, A), fun(A, either(B, B))):
            self.refused_within(("rounds", 3, name("s"), "x", call(name("f"), name("x"))), s=A, f=kind)
        self.refused_within(("rounds", 3, name("g"), "x", ("right", A, ONE)), g=AA)
        self.refused_within(("rounds", 3, name("x"), "x", ("right", A, ONE)), y=A)

    def test_a_fault_within_is_found(self):
        wrong = ("plus", ONE, YES)
        side = ("left", ONE, NUM)
        for term in (("fun", "x", A, wrong), call(("fun", "x", NUM, ONE), wrong), call(wrong, ONE),
                     ("if", YES, wrong, ONE), ("if", YES, ONE, wrong), ("if", wrong, ONE, ONE), ("pair", wrong, ONE),
                     ("pair", ONE, wrong), ("first", wrong), ("second", wrong), ("left", wrong, A), ("right", A, wrong),
                     ("more", wrong, ("none", NUM)), ("more", ONE, wrong), ("case", wrong, "x", ONE, "y", ONE),
                     ("case", side, "x", wrong, "y", ONE), ("case", side, "x", ONE, "y", wrong),
                     ("fold", ("none", A), ONE, "x", "y", wrong), ("fold", ("none", A), wrong, "x", "y", ONE),
                     ("built", NUM, "o", "c", "n", wrong), ("rounds", 1, wrong, "x", ("right", NUM, ONE)),
                     ("rounds", 1, ONE, "x", ("right", NUM, wrong)), ("alike", wrong, wrong)):
            self.refused(term, looked=("a",))

    def test_what_is_no_term_has_no_kind(self):
        self.refused(None, A, ("num", True), ["num", 1], ("fold", ("none", A), ONE, "x", "x", ONE), ("first", [ONE]))

    def test_looked_names_that_nothing_has_are_no_matter(self):
        self.check(fun(A, A), ("fun", "x", A, name("x")), ("b", "c"))


class Told(unittest.TestCase):
    KNOWN = (
        ("f", (), fun(A, B, A)),
        ("g", ("a",), fun(A, B, TRUTH)),
        ("h", ("a", "b"), fun(A, B, TRUTH)),
        ("k", (), fun(NUM, NUM)),
    )

    def kind(self, told, fills, looked=(), known=KNOWN):
        return kind_of(("told", told, fills), looked, known)

    def refused(self, told, fills, looked=(), known=KNOWN):
        with self.assertRaises(NoKind):
            self.kind(told, fills, looked, known)

    def test_filled(self):
        self.assertEqual(self.kind("f", (("a", NUM), ("b", many(C)))), fun(NUM, many(C), NUM))
        self.assertEqual(self.kind("f", (("a", B), ("b", A))), fun(B, A, B))
        self.assertEqual(self.kind("f", (("a", A), ("b", B))), fun(A, B, A))
        self.assertEqual(self.kind("f", (("a", many(A)), ("b", pair(A, B)))), fun(many(A), pair(A, B), many(A)))
        self.assertEqual(self.kind("k", ()), fun(NUM, NUM))

    def test_other_fills(self):
        self.refused("f", ())
        self.refused("f", (("a", NUM),))
        self.refused("f", (("b", NUM),))
        self.refused("f", (("a", NUM), ("b", NUM), ("c", NUM)))
        self.refused("f", (("a", NUM), ("c", NUM)))
        self.refused("k", (("a", NUM),))

    def test_looked_names(self):
        self.assertEqual(self.kind("g", (("a", C), ("b", NUM)), ("c",)), fun(C, NUM, TRUTH))
        self.assertEqual(self.kind("g", (("a", A), ("b", C)), ("a",)), fun(A, C, TRUTH))
        self.refused("g", (("a", C), ("b", NUM)), ())
        self.refused("g", (("a", C), ("b", NUM)), ("a", "b"))
        self.refused("g", (("a", NUM), ("b", C)), ("a", "c"))
        self.refused("g", (("a", many(C)), ("b", C)), ("a", "c"))
        self.refused("g", (("a", A), ("b", A)), ("b",))
        self.assertEqual(self.kind("h", (("a", C), ("b", C)), ("c",)), fun(C, C, TRUTH))
        self.refused("h", (("a", C), ("b", NUM)), ("c",))
        self.refused("h", (("a", C), ("b", A)), ("c",))

    def test_known_or_not(self):
        self.refused("f", (("a", NUM), ("b", NUM)), known=None)
        self.refused("f", (("a", NUM), ("b", NUM)), known=())
        self.refused("e", (("a", NUM), ("b", NUM)))
        with self.assertRaises(NoKind):
            kind_of(("told", "k", ()), ())
        self.assertEqual(kind_of(ONE, (), self.KNOWN), NUM)

    def test_within_a_term(self):
        term = ("fun", "x", C, call(("told", "f", (("a", C), ("b", NUM))), name("x"), call(("told", "k", ()), ONE)))
        self.assertEqual(kind_of(term, (), self.KNOWN), fun(C, C))
        # A name that is bound is no function that is known, nor the other way.
        with self.assertRaises(NoKind):
            kind_of(call(name("k"), ONE), (), self.KNOWN)
        with self.assertRaises(NoKind):
            kind_of(("fun", "e", NUM, ("told", "e", ())), (), self.KNOWN)

    def test_within_a_built(self):
        own = ("open", "o")
        told = ("told", "f", (("a", own), ("b", NUM)))
        term = ("built", NUM, "o", "c", "n", call(told, name("n"), ONE))
        self.assertEqual(kind_of(term, (), self.KNOWN), many(NUM))
        looks = ("if", call(("told", "h", (("a", own), ("b", own))), name("n"), name("n")), name("n"), name("n"))
        with self.assertRaises(NoKind):
            kind_of(("built", NUM, "o", "c", "n", looks), ("a",), self.KNOWN)

    def test_nothing_is_changed(self):
        unchanged = Unchanged(self)
        unchanged.ask(kind_of, ("told", "f", (("a", NUM), ("b", A))), ("a",), self.KNOWN)
        unchanged.ask(kind_of, ("fun", "x", A, ("alike", name("x"), name("x"))), ("a",), None)
        for attempt in range(2):
            self.refused("f", ())
            self.assertEqual(self.kind("k", ()), fun(NUM, NUM))


if __name__ == "__main__":
    unittest.main()
