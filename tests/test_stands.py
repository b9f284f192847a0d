import unittest

from kindalone.checking import kind_of
from kindalone.errors import Broken, KindError, NoBack, NoKind, NoName, Ring, Taken, TooMany, Used
from kindalone.filling import filled_term
from kindalone.kinds import opens_in
from kindalone.running import run
from kindalone.stands import Stand
from kindalone.terms import is_term
from tests.randomterms import Terms, parts_of_term, terms_in
from tests.samples import A, B, C, NUM, TRUTH, binding, call, either, fun, items, many, name, num, pair
from tests.test_filling import in_one_way, own_names

X, Y, F = name("x"), name("y"), name("f")
O, P = ("open", "o"), ("open", "p")
SAME = binding(X, x=A)
NEXT = binding(("plus", X, num(1)), x=NUM)
ALIKE = binding(("alike", X, Y), x=A, y=A)
COPY = binding(("fold", X, ("none", A), "x", "y", ("more", X, Y)), x=many(A))
BUILT = binding(("built", A, "o", "c", "n", ("fold", X, name("n"), "x", "y", call(name("c"), X, Y))), x=many(A))


def told(x, **fills):
    return ("told", x, tuple(sorted(fills.items())))


def wide(many_parts):
    """A function of a num with just so many parts, few of them within one another; many_parts is even."""
    terms = [X] * (many_parts // 2)
    while len(terms) > 1:
        terms = [("plus", *terms[at:at + 2]) if len(terms[at:at + 2]) == 2 else terms[at] for at in range(0, len(terms), 2)]
    return binding(terms[0], x=NUM)


def shown(stand):
    """All that a stand tells."""
    names = stand.names()
    return (stand.deeds(), names, [(stand.kind(x), stand.looked(x), stand.whole(x), stand.uses(x), stand.made(x))
                                   for x in names])


class StandCase(unittest.TestCase):
    def setUp(self):
        self.stand = Stand()

    def refused(self, error, deed, *handed):
        """The deed is refused, and nothing is changed."""
        before = shown(self.stand)
        with self.assertRaises(error) as caught:
            deed(*handed)
        self.assertIs(type(caught.exception), error)
        self.assertEqual(shown(self.stand), before)
        self.assertEqual(shown(self.stand), before)
        return caught.exception

    def tell(self, x, term, *looked):
        many_deeds = self.stand.deeds()
        kind = self.stand.tell(x, looked, term)
        self.assertEqual(self.stand.deeds(), many_deeds + 1)
        self.stands(x, looked, kind)
        return kind

    def retell(self, x, term, *looked):
        many_deeds = self.stand.deeds()
        names = self.stand.names()
        kind = self.stand.retell(x, looked, term)
        self.assertEqual(self.stand.deeds(), many_deeds + 1)
        self.assertEqual(self.stand.names(), names)
        self.stands(x, looked, kind)
        return kind

    def stands(self, x, looked, kind):
        self.assertEqual(self.stand.kind(x), kind)
        self.assertEqual(self.stand.looked(x), looked)
        for other in self.stand.names():
            whole = self.stand.whole(other)
            self.assertTrue(is_term(whole))
            self.assertEqual(kind_of(whole, self.stand.looked(other)), self.stand.kind(other))


class Tell(StandCase):
    def test_an_empty_stand(self):
        self.assertEqual(self.stand.names(), ())
        self.assertEqual(self.stand.deeds(), 0)
        for ask in (self.stand.kind, self.stand.looked, self.stand.whole, self.stand.uses, self.stand.made):
            for x in ("f", "", "F", "abcdefghi"):
                self.refused(NoName, ask, x)

    def test_functions(self):
        self.assertEqual(self.tell("same", SAME), fun(A, A))
        self.assertEqual(self.tell("alike", ALIKE, "a"), fun(A, A, TRUTH))
        self.assertEqual(self.tell("next", NEXT), fun(NUM, NUM))
        self.assertEqual(self.stand.names(), ("same", "alike", "next"))
        self.assertEqual(self.stand.whole("same"), SAME)
        self.assertEqual(self.stand.looked("alike"), ("a",))
        self.assertEqual(self.stand.uses("same"), ())
        self.assertEqual(self.stand.made("same"), 1)
        self.assertEqual(self.stand.deeds(), 3)

    def test_names(self):
        for x in ("", "F", "f1", "a b", "abcdefghi", "f ", "f\n", "-"):
            self.refused(NoName, self.stand.tell, x, (), SAME)
        self.tell("abcdefgh", SAME)
        self.tell("a", SAME)
        self.refused(Taken, self.stand.tell, "a", (), SAME)
        self.refused(Taken, self.stand.tell, "a", (), NEXT)

    def test_no_kind(self):
        for term in (X, binding(Y, x=A), binding(("plus", X, X), x=A), binding(told("same", a=A), x=A), ("fun", "x", A),
                     binding(ALIKE[3], x=A), told("f")):
            self.refused(NoKind, self.stand.tell, "f", (), term)
        # No function, or no told kind.
        for term in (num(1), ("none", A), ("pair", num(1), num(2)), call(NEXT, num(1))):
            self.assertIsNotNone(kind_of(term, ()))
            self.refused(NoKind, self.stand.tell, "f", (), term)
        # Looks that are not in the kind.
        for looked in (("b",), ("a", "b"), ("o",)):
            self.refused(NoKind, self.stand.tell, "f", looked, SAME)
        hidden = binding(("second", ("pair", ("fault", B), X)), x=A)
        self.refused(NoKind, self.stand.tell, "f", ("b",), hidden)
        self.refused(NoKind, self.stand.tell, "f", (), ALIKE)
        self.tell("f", SAME, "a")

    def test_which_comes_first(self):
        self.tell("f", SAME)
        great = wide(202)
        self.refused(NoName, self.stand.tell, "F", (), X)
        self.refused(Taken, self.stand.tell, "f", (), X)
        self.refused(Taken, self.stand.tell, "f", (), great)
        self.refused(NoKind, self.stand.tell, "g", ("a",), great)
        self.refused(TooMany, self.stand.tell, "g", (), great)

    def test_told_ones(self):
        self.tell("same", SAME)
        self.tell("next", NEXT)
        self.assertEqual(self.tell("f", binding(call(told("same", a=NUM), X), x=NUM)), fun(NUM, NUM))
        self.assertEqual(self.stand.whole("f"), binding(call(binding(X, x=NUM), X), x=NUM))
        self.assertEqual(self.stand.uses("f"), ("same",))
        self.assertEqual(self.tell("g", told("same", a=many(B))), fun(many(B), many(B)))
        twice = binding(call(told("next"), call(told("same", a=NUM), call(told("next"), X))), x=NUM)
        self.tell("h", twice)
        self.assertEqual(self.stand.uses("h"), ("next", "same"))
        self.assertEqual(run(self.stand.whole("h"), (5,)), ("worth", 7, 4))

    def test_fills(self):
        self.tell("same", SAME)
        self.tell("both", binding(("pair", X, Y), x=A, y=B))
        self.tell("next", NEXT)
        for term in (told("same"), told("same", b=NUM), told("same", a=NUM, b=NUM), told("both", a=NUM),
                     told("both", a=NUM, b=NUM, c=NUM), told("both", a=NUM, c=NUM), told("next", a=NUM), told("none")):
            self.refused(NoKind, self.stand.tell, "f", (), term)
        self.tell("f", told("both", a=B, b=A))
        self.assertEqual(self.stand.kind("f"), fun(B, A, pair(B, A)))

    def test_looked_names_that_are_filled(self):
        self.tell("alike", ALIKE, "a")
        for put, looked in ((NUM, ()), (B, ()), (pair(B, B), ("b",)), (B, ("a",)), (A, ()), (TRUTH, ())):
            term = told("alike", a=put)
            self.refused(NoKind, self.stand.tell, "f", tuple(x for x in looked if x in opens_in(put)), term)
        self.tell("f", told("alike", a=A), "a")
        self.tell("g", told("alike", a=B), "b")
        self.assertEqual(self.stand.whole("g"), binding(("alike", X, Y), x=B, y=B))
        # What is not looked at may be filled by what is.
        self.tell("same", SAME)
        self.tell("h", binding(call(told("same", a=B), X), x=B), "b")

    def test_a_function_that_is_not_told_yet(self):
        self.refused(NoKind, self.stand.tell, "f", (), told("f"))
        self.refused(NoKind, self.stand.tell, "f", (), binding(call(told("g"), X), x=NUM))
        self.tell("g", NEXT)
        self.tell("f", binding(call(told("g"), X), x=NUM))


class Retell(StandCase):
    def test_another_term(self):
        self.tell("f", SAME)
        self.tell("g", NEXT)
        self.assertEqual(self.retell("f", ALIKE, "a"), fun(A, A, TRUTH))
        self.assertEqual(self.stand.names(), ("f", "g"))
        self.assertEqual(self.stand.made("f"), 2)
        self.assertEqual(self.stand.made("g"), 1)
        # The same once more is a deed, too.
        self.retell("f", ALIKE, "a")
        self.assertEqual(self.stand.made("f"), 3)
        self.retell("f", SAME)
        self.assertEqual(self.stand.looked("f"), ())

    def test_names_that_do_not_stand(self):
        self.tell("f", SAME)
        for x in ("", "g", "F", "ff", "f ", "abcdefghi"):
            self.refused(NoName, self.stand.retell, x, (), SAME)

    def test_no_kind(self):
        self.tell("f", SAME)
        for looked, term in (((), X), ((), num(1)), (("b",), SAME), ((), ALIKE), ((), told("g")), ((), ("fun", "x")),
                             ((), ("told",)), ((), ("fun", "x", A, None)), ((), ("told", "f"))):
            self.refused(NoKind, self.stand.retell, "f", looked, term)

    def test_rings(self):
        self.tell("f", NEXT)
        self.refused(Ring, self.stand.retell, "f", (), told("f"))
        self.refused(Ring, self.stand.retell, "f", (), binding(call(told("f"), X), x=NUM))
        self.tell("g", told("f"))
        self.tell("h", binding(call(told("g"), X), x=NUM))
        self.tell("k", binding(call(told("h"), X), x=NUM))
        for x in ("g", "h", "k"):
            self.refused(Ring, self.stand.retell, "f", (), told(x))
            # Wherever it stands, and whatever its kind is.
            self.refused(Ring, self.stand.retell, "f", (), binding(("second", ("pair", call(told(x), X), X)), x=NUM))
            self.refused(Ring, self.stand.retell, "f", (), told(x, a=NUM))
        self.refused(Ring, self.stand.retell, "g", (), told("k"))
        self.retell("k", told("f"))
        self.retell("g", NEXT)
        self.refused(Ring, self.stand.retell, "f", (), told("k"))
        self.retell("f", told("g"))
        self.assertEqual(self.stand.uses("f"), ("g",))

    def test_a_name_that_it_used_is_not_used_any_more(self):
        self.tell("f", NEXT)
        self.tell("g", told("f"))
        self.retell("g", NEXT)
        self.retell("f", told("g"))
        self.assertEqual(self.stand.uses("g"), ())
        self.refused(Used, self.stand.drop, "g")
        # f came first and uses g, which came behind it.
        self.retell("g", binding(("plus", X, num(5)), x=NUM))
        self.assertEqual(run(self.stand.whole("f"), (1,))[1], 6)
        self.assertEqual(self.stand.made("f"), 3)

    def test_broken_ones(self):
        self.tell("f", SAME)
        self.tell("g", binding(call(told("f", a=NUM), X), x=NUM))
        self.tell("h", binding(call(told("f", a=TRUTH), X), x=TRUTH))
        self.tell("k", told("g"))
        self.assertEqual(self.refused(Broken, self.stand.retell, "f", (), NEXT).name, "g")
        self.assertEqual(self.refused(Broken, self.stand.retell, "f", ("a",), SAME).name, "g")
        # Its kind may be another one, where those that use it have a kind.
        self.retell("f", binding(X, x=A))
        self.tell("l", told("f", a=A))
        self.assertEqual(self.refused(Broken, self.stand.retell, "g", (), SAME).name, "k")

    def test_the_first_in_order_is_told(self):
        self.tell("base", NEXT)
        self.tell("far", NEXT)
        self.tell("near", told("base"))
        self.retell("far", binding(call(told("near"), X), x=NUM))
        # far uses near, which uses base: near has no kind then, so that far has none either, and far came first.
        other = binding(X, x=A)
        self.assertEqual(self.refused(Broken, self.stand.retell, "base", (), other).name, "far")
        # near has another kind then; far, which adds what it tells, none.
        truth = binding(("less", X, X), x=NUM)
        self.retell("far", binding(("plus", call(told("near"), X), X), x=NUM))
        self.assertEqual(self.refused(Broken, self.stand.retell, "base", (), truth).name, "far")
        self.retell("far", binding(("pair", call(told("near"), X), X), x=NUM))
        self.retell("base", truth)
        self.assertEqual(self.stand.kind("near"), fun(NUM, TRUTH))
        self.assertEqual(self.stand.kind("far"), fun(NUM, pair(TRUTH, NUM)))

    def test_kinds_are_found_anew(self):
        self.tell("f", SAME)
        self.tell("g", told("f", a=B))
        self.tell("h", binding(call(told("g", b=NUM), X), x=NUM))
        self.retell("f", binding(("pair", X, X), x=A))
        self.assertEqual(self.stand.kind("g"), fun(B, pair(B, B)))
        self.assertEqual(self.stand.kind("h"), fun(NUM, pair(NUM, NUM)))
        # A looked name that is not in the kind any more.
        self.tell("k", binding(call(told("f", a=C), X), x=C), "c")
        self.tell("l", told("f", a=C), "c")
        constant = binding(num(1), x=many(A))
        self.assertEqual(self.refused(Broken, self.stand.retell, "f", (), constant).name, "h")
        self.stand.drop("h")
        self.assertEqual(self.refused(Broken, self.stand.retell, "f", (), constant).name, "k")

    def test_a_used_one_that_is_a_data_kind_or_looks_then(self):
        self.tell("f", SAME)
        self.tell("g", told("f", a=A), "a")
        # Where f looks, g, which looks at what it fills, has a kind still; h has none.
        self.tell("h", told("f", a=B))
        self.assertEqual(self.refused(Broken, self.stand.retell, "f", ("a",), SAME).name, "h")
        self.stand.drop("h")
        self.retell("f", SAME, "a")
        self.assertEqual(self.stand.looked("g"), ("a",))
        # The kind of g would not have its looked name any more.
        self.tell("k", NEXT)
        lost = binding(("second", ("pair", X, num(1))), x=A)
        self.retell("f", lost, "a")
        self.assertEqual(self.stand.kind("g"), fun(A, NUM))

    def test_too_many_by_a_retell_of_a_used_one(self):
        self.tell("f", NEXT)
        self.tell("g", binding(("plus", call(told("f"), X), call(told("f"), X)), x=NUM))
        self.assertEqual(parts_of_term(self.stand.whole("g"))[0], 2 + 2 * (2 + 4))
        # 2 + 2 * (2 + 98) is too many, 2 + 2 * (2 + 96) is not; f itself would have but 98.
        self.refused(TooMany, self.stand.retell, "f", (), wide(98))
        self.retell("f", wide(96))
        self.assertEqual(parts_of_term(self.stand.whole("g"))[0], 198)
        # Broken is ahead of it.
        self.assertEqual(self.refused(Broken, self.stand.retell, "f", (), binding(wide(98), y=NUM)).name, "g")

    def test_which_comes_first(self):
        self.tell("f", NEXT)
        self.tell("g", told("f"))
        self.refused(NoName, self.stand.retell, "h", (), told("h"))
        self.refused(Ring, self.stand.retell, "f", ("a",), binding(("plus", told("g"), Y), x=A))
        self.refused(NoKind, self.stand.retell, "f", ("a",), NEXT)
        self.refused(TooMany, self.stand.retell, "f", (), wide(202))
        self.tell("h", binding(call(told("g"), X), x=NUM))
        self.assertEqual(self.refused(Broken, self.stand.retell, "f", (), binding(wide(202), y=A)).name, "g")


class DropAndBack(StandCase):
    def test_drop(self):
        self.tell("f", SAME)
        self.tell("g", NEXT)
        self.assertIsNone(self.stand.drop("f"))
        self.assertEqual(self.stand.names(), ("g",))
        self.assertEqual(self.stand.deeds(), 3)
        for x in ("f", "", "F", "h"):
            self.refused(NoName, self.stand.drop, x)
        for ask in (self.stand.kind, self.stand.looked, self.stand.whole, self.stand.uses, self.stand.made):
            self.refused(NoName, ask, "f")
        self.refused(NoName, self.stand.retell, "f", (), SAME)

    def test_told_again_behind_a_drop(self):
        self.tell("f", NEXT)
        self.tell("g", NEXT)
        self.retell("f", NEXT)
        self.stand.drop("f")
        self.tell("f", NEXT)
        self.assertEqual(self.stand.names(), ("g", "f"))
        self.assertEqual(self.stand.made("f"), 1)

    def test_used_ones(self):
        self.tell("f", NEXT)
        self.tell("g", NEXT)
        self.tell("h", told("f"))
        self.tell("k", told("f"))
        self.assertEqual(self.refused(Used, self.stand.drop, "f").name, "h")
        # The first in order, whatever came first to use it.
        self.retell("g", told("f"))
        self.assertEqual(self.refused(Used, self.stand.drop, "f").name, "g")
        self.stand.drop("g")
        self.stand.drop("h")
        self.assertEqual(self.refused(Used, self.stand.drop, "f").name, "k")
        self.stand.drop("k")
        self.stand.drop("f")
        self.assertEqual(self.stand.names(), ())
        # In the order they came, not by their names.
        self.tell("z", NEXT)
        self.tell("y", told("z"))
        self.tell("x", told("z"))
        self.assertEqual(self.refused(Used, self.stand.drop, "z").name, "y")
        self.assertEqual(self.refused(Broken, self.stand.retell, "z", (), SAME).name, "y")
        # Only what names it uses it.
        self.tell("a", NEXT)
        self.tell("b", told("a"))
        self.tell("c", told("b"))
        self.assertEqual(self.refused(Used, self.stand.drop, "a").name, "b")
        self.retell("b", NEXT)
        self.stand.drop("a")

    def test_back(self):
        seen = [shown(self.stand)]
        for deed in ((self.stand.tell, "f", (), NEXT), (self.stand.tell, "g", (), told("f")),
                     (self.stand.retell, "f", (), wide(20)), (self.stand.tell, "h", ("a",), ALIKE),
                     (self.stand.retell, "g", (), NEXT), (self.stand.drop, "f"), (self.stand.tell, "f", (), SAME)):
            deed[0](*deed[1:])
            seen.append(shown(self.stand))
        for many_deeds in (8, 9, 100, -1, -8, 10 ** 30):
            self.refused(NoBack, self.stand.back, many_deeds)
        for many_deeds in (7, 6, 5, 3, 1, 0):
            self.assertIsNone(self.stand.back(many_deeds))
            self.assertEqual(shown(self.stand), seen[many_deeds])
            self.assertEqual(self.stand.deeds(), many_deeds)
            self.refused(NoBack, self.stand.back, many_deeds + 1)
        self.tell("k", NEXT)
        self.assertEqual(self.stand.deeds(), 1)

    def test_deeds_behind_back(self):
        self.tell("f", NEXT)
        self.tell("g", told("f"))
        self.retell("f", NEXT)
        self.assertEqual((self.stand.made("f"), self.stand.made("g")), (2, 2))
        self.stand.back(2)
        self.assertEqual((self.stand.made("f"), self.stand.made("g")), (1, 1))
        self.retell("g", NEXT)
        self.assertEqual((self.stand.made("f"), self.stand.made("g")), (1, 2))
        self.stand.back(1)
        self.tell("g", SAME)
        self.assertEqual(self.stand.made("g"), 1)

    def test_two_stands(self):
        other = Stand()
        self.tell("f", NEXT)
        self.assertEqual(shown(other), (0, (), []))
        other.tell("f", (), SAME)
        self.assertEqual(self.stand.kind("f"), fun(NUM, NUM))
        self.stand.back(0)
        self.assertEqual(other.names(), ("f",))

    def test_refusals(self):
        for error in (NoName, Taken, Ring, NoKind, Broken, TooMany, Used, NoBack):
            self.assertTrue(issubclass(error, KindError))


class Made(StandCase):
    def counts(self):
        return {x: self.stand.made(x) for x in self.stand.names()}

    def test_just_those_that_reach_it(self):
        self.tell("a", NEXT)
        self.tell("b", told("a"))
        self.tell("c", binding(call(told("a"), call(told("b"), X)), x=NUM))
        self.tell("d", binding(call(told("b"), call(told("c"), X)), x=NUM))
        self.tell("e", NEXT)
        self.assertEqual(self.counts(), {"a": 1, "b": 1, "c": 1, "d": 1, "e": 1})
        self.retell("a", wide(6))
        self.assertEqual(self.counts(), {"a": 2, "b": 2, "c": 2, "d": 2, "e": 1})
        self.retell("c", NEXT)
        self.assertEqual(self.counts(), {"a": 2, "b": 2, "c": 3, "d": 3, "e": 1})
        self.retell("a", NEXT)
        self.assertEqual(self.counts(), {"a": 3, "b": 3, "c": 3, "d": 4, "e": 1})
        self.retell("e", told("d"))
        self.retell("b", NEXT)
        self.assertEqual(self.counts(), {"a": 3, "b": 4, "c": 3, "d": 5, "e": 3})
        # A refused one makes nothing.
        self.refused(Broken, self.stand.retell, "c", (), SAME)
        self.refused(TooMany, self.stand.retell, "b", (), wide(200))
        self.stand.back(6)
        self.assertEqual(self.counts(), {"a": 2, "b": 2, "c": 2, "d": 2, "e": 1})


class Wholes(StandCase):
    def test_told_ones_in_told_ones(self):
        self.tell("same", SAME)
        self.tell("map", binding(("fold", X, ("none", B), "x", "y", ("more", call(F, X), Y)), f=fun(A, B), x=many(A)))
        self.tell("copy", binding(call(told("map", a=C, b=C), told("same", a=C), X), x=many(C)))
        self.tell("nums", binding(call(told("copy", c=NUM), X), x=many(NUM)))
        expected = binding(call(binding(call(binding(("fold", X, ("none", NUM), "x", "y", ("more", call(F, X), Y)),
                                                     f=fun(NUM, NUM), x=many(NUM)), binding(X, x=NUM), X), x=many(NUM)), X),
                           x=many(NUM))
        self.assertEqual(self.stand.whole("nums"), expected)
        self.assertEqual(run(expected, (items(1, 2),))[1], items(1, 2))
        self.assertEqual(self.stand.uses("copy"), ("map", "same"))

    def test_own_names_that_are_met_where_they_come_to_stand(self):
        self.tell("copy", BUILT)
        # o is in a kind around it, and in the kind that is put in.
        self.tell("f", binding(call(told("copy", a=NUM), X), x=many(NUM), y=O))
        whole = self.stand.whole("f")
        self.assertEqual(in_one_way(whole), in_one_way(binding(call(filled_term(BUILT, (("a", NUM),)), X), x=many(NUM), y=O)))
        self.assertNotIn("o", own_names(whole))
        self.tell("g", binding(call(told("copy", a=O), X), x=many(O)))
        self.assertNotIn("o", own_names(self.stand.whole("g")))
        # Where it is not met it stays.
        self.tell("h", binding(call(told("copy", a=NUM), X), x=many(NUM)))
        self.assertEqual(own_names(self.stand.whole("h")), ["o"])

    def test_own_names_that_are_looked_at(self):
        self.tell("copy", BUILT)
        term = binding(("pair", ("alike", X, X), call(binding(call(told("copy", a=NUM), Y), x=NUM, y=many(NUM)), num(1),
                                                      ("none", NUM))), x=O)
        self.tell("f", term, "o")
        self.assertNotIn("o", own_names(self.stand.whole("f")))

    def test_within_a_built_of_the_same_own_name(self):
        self.tell("copy", BUILT)
        inner = call(("fun", "k", many(NUM), name("n")), call(told("copy", a=NUM), ("none", NUM)))
        self.tell("f", binding(("built", NUM, "o", "c", "n", inner), x=NUM))
        whole = self.stand.whole("f")
        self.assertEqual(len(own_names(whole)), 2)
        self.assertEqual(own_names(whole)[0], "o")
        self.assertNotEqual(own_names(whole)[1], "o")
        # Filled by the own name of the built around it.
        filled = call(("fun", "k", many(O), name("n")), call(told("copy", a=O), ("none", O)))
        self.tell("g", binding(("built", NUM, "o", "c", "n", filled), x=NUM))
        self.assertEqual(own_names(self.stand.whole("g"))[0], "o")

    def test_new_names_are_unused(self):
        self.tell("copy", BUILT)
        kinds = {x: ("open", x) for x in ("o", "own", "owna")}
        term = binding(call(told("copy", a=NUM), X), x=many(NUM), y=kinds["o"], z=pair(kinds["own"], kinds["owna"]))
        self.tell("f", term)
        self.assertFalse({"o", "own", "owna"} & set(own_names(self.stand.whole("f"))))
        looks = binding(("pair", ("alike", Y, Y), call(told("copy", a=NUM), X)), x=many(NUM), y=kinds["own"], z=kinds["o"])
        self.tell("g", looks, "own")
        self.assertFalse({"o", "own"} & set(own_names(self.stand.whole("g"))))

    def test_just_two_hundred_parts(self):
        self.assertEqual(parts_of_term(wide(200))[0], 200)
        self.tell("f", wide(200))
        self.refused(TooMany, self.stand.tell, "g", (), wide(202))
        odd = binding(("second", ("pair", num(1), wide(196)[3])), x=NUM)
        self.assertEqual(parts_of_term(odd)[0], 199)
        self.tell("h", odd)
        self.refused(TooMany, self.stand.tell, "k", (), binding(call(told("h"), X), x=NUM))
        # The told one is no part of the whole, its own whole is.
        self.tell("m", wide(198))
        self.assertEqual(parts_of_term(binding(call(told("m"), X), x=NUM))[0], 4)
        self.refused(TooMany, self.stand.tell, "n", (), binding(call(told("m"), X), x=NUM))
        self.tell("p", wide(194))
        self.tell("q", binding(call(told("p"), X), x=NUM))
        self.assertEqual(parts_of_term(self.stand.whole("q"))[0], 197)
        self.tell("s", binding(("plus", call(told("p"), X), X), x=NUM))
        self.assertEqual(parts_of_term(self.stand.whole("s"))[0], 199)
        # One more by each: 200 of one with a left around it, 201 of two.
        self.tell("v", binding(("left", ("plus", call(told("p"), X), X), NUM), x=NUM))
        self.assertEqual(parts_of_term(self.stand.whole("v"))[0], 200)
        lefts = binding(("left", ("left", ("plus", call(told("p"), X), X), NUM), NUM), x=NUM)
        self.refused(TooMany, self.stand.tell, "w", (), lefts)
        self.refused(TooMany, self.stand.tell, "t", (), binding(("plus", call(told("p"), X), ("plus", X, X)), x=NUM))
        self.tell("u", told("f"))
        self.assertEqual(parts_of_term(self.stand.whole("u"))[0], 200)

    def test_just_thirty_within_one_another(self):
        def firsts(levels):
            inner = X
            for level in range(levels - 2):
                inner = ("plus", inner, num(1))
            return binding(inner, x=NUM)

        self.assertEqual(parts_of_term(firsts(30))[1], 30)
        self.tell("f", firsts(30))
        self.refused(TooMany, self.stand.tell, "g", (), firsts(31))
        self.tell("h", firsts(20))
        self.tell("k", binding(call(told("h"), X), x=NUM))
        self.assertEqual(parts_of_term(self.stand.whole("k"))[1], 22)
        for around, held in ((10, True), (11, False)):
            term = told("h")
            for level in range(around):
                term = ("if", ("truth", True), term, NEXT)
            if held:
                self.tell("l", term)
                self.assertEqual(parts_of_term(self.stand.whole("l"))[1], 30)
            else:
                self.refused(TooMany, self.stand.tell, "m", (), term)
        # And by a retell of the used one.
        self.refused(TooMany, self.stand.retell, "h", (), firsts(21))
        self.retell("h", firsts(19))
        self.assertEqual(parts_of_term(self.stand.whole("l"))[1], 29)


class Drawn(unittest.TestCase):
    """Deeds drawn by a seeded source, against a stand kept by simple means."""

    KINDS = (fun(A, A), fun(NUM, NUM), fun(many(A), many(A)), fun(A, B, pair(A, B)), fun(many(NUM), NUM),
             fun(A, A, TRUTH), fun(either(A, NUM), many(A)))

    def test_drawn_deeds(self):
        seen = {}
        for seed in range(40):
            self.stand = Stand()
            self.rows = []
            self.history = [list(self.rows)]
            terms = Terms(seed, ("a",), False)
            for turn in range(25):
                told_error = self.deed(terms)
                seen[told_error] = seen.get(told_error, 0) + 1
                self.same()
        for error in (None, NoName, Taken, Ring, NoKind, Broken, Used, NoBack):
            self.assertGreater(seen.get(error, 0), 3, (error, seen))

    def same(self):
        self.assertEqual(self.stand.names(), tuple(row[0] for row in self.rows))
        self.assertEqual(self.stand.deeds(), len(self.history) - 1)
        known = {}
        for x, looked, term, times in self.rows:
            self.assertEqual(self.stand.looked(x), looked)
            self.assertEqual(self.stand.made(x), times)
            self.assertEqual(self.stand.uses(x), tuple(sorted(names_told(term))))
            self.assertEqual(kind_of(self.stand.whole(x), looked), self.stand.kind(x))
            known[x] = term
        for x, looked, term, times in self.rows:
            self.assertEqual(in_one_way(self.stand.whole(x)), in_one_way(expanded(term, known)))

    def draw(self, terms):
        """A term that uses some of those that stand, or one that does not."""
        drawn = terms.random
        names = [row[0] for row in self.rows] + ["k"]
        x = drawn.choice(names)
        if drawn.random() < 0.5 or x == "k" and drawn.random() < 0.9:
            return terms.function(drawn.choice(self.KINDS), drawn.randrange(1, 4))
        kind = self.stand.kind(x) if x != "k" else fun(A, A)
        fills = tuple((o, drawn.choice((A, B, NUM, many(A), O))) for o in opens_in(kind))
        if drawn.random() < 0.1:
            fills = fills[1:]
        term = ("told", x, fills)
        return term if drawn.random() < 0.5 else binding(term, w=drawn.choice((NUM, P, O)))

    def deed(self, terms):
        """One deed, done or refused; which refusal came."""
        drawn = terms.random
        x = drawn.choice("fghijlm" if drawn.random() < 0.97 else ("F", "", "a1"))
        way = drawn.random()
        rows = [list(row) for row in self.rows]
        try:
            if way < 0.45:
                term, looked = self.draw(terms), drawn.choice(((), (), ("a",)))
                kind = self.stand.tell(x, looked, term)
                self.assertEqual(kind, self.stand.kind(x))
                rows.append([x, looked, term, 1])
            elif way < 0.8:
                term, looked = self.draw(terms), drawn.choice(((), (), ("a",)))
                reaching = [row[0] for row in rows if x in reached(row[2], {row[0]: row[2] for row in rows}) or row[0] == x]
                self.stand.retell(x, looked, term)
                for row in rows:
                    if row[0] == x:
                        row[1:3] = looked, term
                    row[3] += row[0] in reaching
            elif way < 0.93:
                self.stand.drop(x)
                rows = [row for row in rows if row[0] != x]
            else:
                many_deeds = drawn.randrange(-1, len(self.history) + 2)
                self.stand.back(many_deeds)
                del self.history[many_deeds + 1:]
                self.rows = list(self.history[-1])
                return None
        except KindError as refusal:
            return type(refusal)
        self.rows = [tuple(row) for row in rows]
        self.history.append(list(self.rows))
        return None


def names_told(term):
    found = {term[1]} if term[0] == "told" else set()
    for inner in terms_in(term):
        found |= names_told(inner)
    return found


def reached(term, known):
    found = set()
    for x in names_told(term):
        found |= {x} | (reached(known[x], known) if x in known else set())
    return found


def expanded(term, known):
    """The whole of a term, but for own names that are met."""
    if term[0] == "told":
        return filled_term(expanded(known[term[1]], known), term[2])
    return tuple(expanded(part, known) if isinstance(part, tuple) and part in terms_in(term) else part for part in term)


class Samples(unittest.TestCase):
    def test_their_sizes(self):
        for size in (6, 20, 98, 200):
            self.assertEqual(parts_of_term(wide(size))[0], size)


if __name__ == "__main__":
    unittest.main()
