import unittest

from kindalone.checking import kind_of
from kindalone.errors import KindError, NoKind, NoLead, TooMuch
from kindalone.kinds import opens_in
from kindalone.leadchecks import leads_holds
from kindalone.leads import led, led_by
from kindalone.running import run
from kindalone.terms import is_term
from tests.randomleads import LeadTerms
from tests.randomterms import terms_in
from tests.samples import (A, B, NUM, TOO_MUCH, TRUTH, WRONG, Unchanged, binding, call, either, fun, items, many, name,
                           num, pair, replaced)
from tests.slow import arguments
from tests.test_filling import in_one_way, own_names
from tests.test_running import random_worth
from tests.test_straight import slow_straight

C, N, X, Y, Z = name("c"), name("n"), name("x"), name("y"), name("z")
O, P = ("open", "o"), ("open", "p")
YES, NO = ("truth", True), ("truth", False)
NIL = ("none", NUM)
RULES = ("short", "copied", "none", "chosen")


def put(item, rest):
    return call(C, item, rest)


def built(inner, item=NUM, own="o"):
    return ("built", item, own, "c", "n", inner)


def folded(asked, begun=num(0), turn=("plus", X, Y)):
    return ("fold", asked, begun, "x", "y", turn)


def shorter(inner, begun=num(0), turn=("plus", X, Y), item=NUM, end=NUM):
    """What a fold of a built of this inner term becomes."""
    putting = ("fun", "c", fun(item, end, end), ("fun", "n", end, inner))
    return call(putting, ("fun", "x", item, ("fun", "y", end, turn)), begun)


def copying(asked, item=NUM, own="o"):
    return built(("fold", asked, N, "x", "y", call(C, X, Y)), item, own)


TWO = put(num(5), put(num(7), N))
SHORT = folded(built(TWO))
COPIED = copying(("more", num(1), NIL))
NONE = folded(NIL, num(3))
CHOSEN = ("if", YES, num(1), num(2))
# Each rule alone, at the whole of a term, and what it becomes.
EACH = (
    ("short", SHORT, shorter(TWO)),
    ("copied", COPIED, ("more", num(1), NIL)),
    ("none", NONE, num(3)),
    ("chosen", CHOSEN, num(1)),
    ("chosen", ("if", NO, num(1), num(2)), num(2)),
)


def at_places(term, place=()):
    """All places of a term with the terms there, as tuples rise."""
    found = [(place, term)]
    for at, inner in enumerate(terms_in(term)):
        found += at_places(inner, (*place, at))
    return found


def outcome(term, args):
    try:
        return run(term, args)
    except TooMuch:
        return ("too much", None)


class Leads(unittest.TestCase):
    def led(self, expected, term, place, rule, looked=()):
        kind = kind_of(term, looked)
        told = Unchanged(self).ask(led_by, term, looked, (place, rule))
        self.assertTrue(is_term(told))
        self.assertEqual(kind_of(told, looked), kind)
        if expected is not None:
            self.assertEqual(in_one_way(told), in_one_way(expected))
        return told

    def none(self, term, lead, looked=()):
        kind_of(term, looked)
        with self.assertRaises(NoLead):
            led_by(term, looked, lead)

    def nowhere(self, term, looked=()):
        for place, part in at_places(term):
            for rule in RULES:
                self.none(term, (place, rule), looked)
        self.assertEqual(Unchanged(self).ask(led, term, looked), (term, ()))


class Rules(Leads):
    def test_at_the_whole_term(self):
        for rule, term, expected in EACH:
            told = self.led(expected, term, (), rule)
            self.assertEqual(told, expected)
            for other in RULES:
                if other != rule:
                    self.none(term, ((), other))

    def test_within_each_word(self):
        """At each place at which a num, or a list of nums, may stand."""
        ways = (
            ((0,), lambda t: ("fun", "w", TRUTH, t)), ((0, 0), lambda t: call(("fun", "w", TRUTH, t), YES)),
            ((1,), lambda t: call(binding(num(0), w=self.kind), t)),
            ((1,), lambda t: ("if", ("less", num(1), num(2)), t, t)), ((2,), lambda t: ("if", ("less", num(1), num(2)), t, t)),
            ((0, 0, 0, 0), lambda t: ("if", ("less", ("second", ("pair", t, num(1))), num(2)), num(1), num(2))),
            ((0,), lambda t: ("pair", t, num(1))), ((1,), lambda t: ("pair", num(1), t)),
            ((0, 0), lambda t: ("first", ("pair", t, num(1)))), ((0, 1), lambda t: ("second", ("pair", num(1), t))),
            ((0,), lambda t: ("left", t, NUM)), ((0,), lambda t: ("right", NUM, t)),
            ((0, 0), lambda t: ("case", ("left", t, NUM), "w", num(1), "v", num(2))),
            ((1,), lambda t: ("case", ("left", num(1), NUM), "w", t, "v", t)),
            ((2,), lambda t: ("case", ("left", num(1), NUM), "w", t, "v", t)),
            ((0,), lambda t: ("more", t, ("none", self.kind))), ((0, 0), lambda t: ("fold", ("more", t, (
                "none", self.kind)), num(0), "w", "v", num(1))),
            ((1,), lambda t: ("fold", ("more", num(1), NIL), t, "w", "v", name("v"))),
            ((2,), lambda t: ("fold", ("more", num(1), NIL), t, "w", "v", t)),
            ((0, 0, 1), lambda t: ("built", self.kind, "q", "w", "v", call(name("w"), t, name("v")))),
            ((0,), lambda t: ("rounds", 3, t, "w", ("right", self.kind, t))),
            ((1, 0), lambda t: ("rounds", 3, t, "w", ("right", self.kind, t))),
        )
        for rule, term, expected in EACH:
            self.kind = kind_of(term, ())
            for place, way in ways:
                whole = way(term)
                self.assertEqual(dict(at_places(whole))[place], term)
                told = self.led(None, whole, place, rule)
                self.assertEqual(dict(at_places(told))[place], expected)
                # Nothing else is changed.
                there = [where for where, part in at_places(whole) if part == term]
                if there == [place]:
                    self.assertEqual(told, way(expected))
        self.kind = NUM
        numbers = (((0,), lambda t: ("plus", t, num(1))), ((1,), lambda t: ("plus", num(1), t)),
                   ((0,), lambda t: ("less", t, num(1))), ((1,), lambda t: ("less", num(1), t)),
                   ((1, 0), lambda t: ("more", num(1), ("more", t, NIL))))
        for rule, term, expected in EACH:
            for place, way in numbers:
                if kind_of(term, ()) == NUM:
                    self.assertEqual(self.led(None, way(term), place, rule), way(expected))

    def test_beneath_several_binders(self):
        asked = ("case", X, "u", ("plus", name("u"), num(1)), "v", ("if", name("v"), num(1), num(0)))
        inner = ("fold", Z, N, "x", "w", put(asked, name("w")))
        term = binding(("fold", Y, num(0), "z", "y", ("plus", Y, ("fold", built(inner), num(0), "x", "y", ("plus", X, Y)))),
                       y=many(many(either(NUM, TRUTH))))
        expected = binding(("fold", Y, num(0), "z", "y", ("plus", Y, shorter(inner))), y=many(many(either(NUM, TRUTH))))
        self.assertEqual(self.led(None, term, (0, 2, 1), "short"), expected)
        handed = items(items(("left", 4), ("right", True)), items(), items(("right", False)))
        self.assertEqual(run(term, (handed,))[:2], ("worth", 6))
        self.assertEqual(run(term, (handed,))[2] - 2 * 3, run(expected, (handed,))[2])

    def test_names_of_several_kinds_around(self):
        # The fold's kind comes from a name that is bound by each binder.
        for kind in (NUM, TRUTH, pair(A, NUM), many(A)):
            begun = name("e")
            short = folded(built(TWO), begun, Y)
            expected = shorter(TWO, begun, Y, NUM, kind)
            ways = (
                ((0,), lambda t: ("fun", "e", kind, t)),
                ((0, 1), lambda t: ("fun", "d", either(kind, NUM), ("case", name("d"), "e", t, "e", ("fault", kind)))),
                ((0, 2), lambda t: ("fun", "d", either(NUM, kind), ("case", name("d"), "e", ("fault", kind), "e", t))),
                ((0, 2), lambda t: ("fun", "d", many(kind), ("fold", name("d"), ("fault", kind), "e", "f", t))),
                ((0, 2), lambda t: ("fun", "d", kind, ("fold", NIL, name("d"), "f", "e", t))),
                ((0, 1, 0), lambda t: ("fun", "d", kind, ("rounds", 2, name("d"), "e", ("right", kind, t)))),
            )
            for place, way in ways:
                self.assertEqual(self.led(None, way(short), place, "short"), way(expected))

    def test_nearly_short(self):
        for term in (
            folded(("more", num(1), NIL)), folded(("fault", many(NUM))), folded(("first", ("pair", built(TWO), num(1)))),
            folded(("if", ("less", num(1), num(2)), built(TWO), built(TWO))),
            folded(call(("fun", "w", many(NUM), name("w")), built(TWO))),
            # What is built is not straight.
            folded(built(call(("fun", "w", O, put(num(1), name("w"))), N))),
            folded(built(call(("fun", "w", fun(O, O), call(name("w"), N)), call(C, num(1))))),
            folded(built(("fault", O))), folded(built(("first", ("pair", N, num(1))))),
            folded(built(put(("fold", ("none", O), num(1), "c", "w", num(1)), N))),
            folded(built(put(("second", ("pair", N, num(1))), N))),
            folded(built(("rounds", 2, N, "w", ("right", O, name("w"))))),
            folded(built(("fold", ("more", num(1), NIL), N, "x", "n", put(X, N)))),
        ):
            self.none(term, ((), "short"))
            self.none(term, ((), "none"))

    def test_nearly_copied(self):
        asked = ("more", num(1), NIL)
        other = ("more", num(2), NIL)
        for inner in (
            ("fold", asked, put(num(1), N), "x", "y", call(C, X, Y)), ("fold", asked, N, "x", "y", Y),
            ("fold", asked, N, "x", "y", call(C, num(1), Y)), ("fold", asked, N, "x", "y", call(C, X, N)),
            ("fold", asked, N, "x", "y", call(C, ("plus", X, num(0)), Y)), ("fold", asked, N, "x", "y", N),
            ("fold", asked, N, "x", "y", call(C, X, call(C, X, Y))), N, put(num(1), N),
            ("fold", other, ("fold", asked, N, "x", "y", call(C, X, Y)), "x", "y", call(C, X, Y)),
            ("if", YES, ("fold", asked, N, "x", "y", call(C, X, Y)), N),
            # c or n within s, bound again there too.
            ("fold", ("first", ("pair", asked, N)), N, "x", "y", call(C, X, Y)),
            ("fold", ("more", call(("fun", "n", NUM, N), num(1)), NIL), N, "x", "y", call(C, X, Y)),
            ("fold", ("more", call(("fun", "c", NUM, C), num(1)), NIL), N, "x", "y", call(C, X, Y)),
            ("fold", call(("fun", "w", O, asked), N), N, "x", "y", call(C, X, Y)),
            ("fold", call(("fun", "w", fun(NUM, O, O), asked), C), N, "x", "y", call(C, X, Y)),
        ):
            self.none(built(inner), ((), "copied"))
        # With c as the fold's own first or second name it has no kind.
        for inner in (("fold", Z, N, "c", "y", call(C, C, Y)), ("fold", Z, N, "x", "c", call(C, X, C))):
            self.assertRaises(NoKind, kind_of, binding(built(inner), z=many(NUM)), ())
        # n may be the fold's own first or second one.
        for first, second in (("n", "y"), ("x", "n")):
            same = built(("fold", asked, N, first, second, call(C, name(first), name(second))))
            self.assertEqual(self.led(None, same, (), "copied"), asked)
        # n bound in s, and not named there.
        asked = ("more", call(("fun", "n", NUM, num(1)), num(1)), NIL)
        self.assertEqual(self.led(None, copying(asked), (), "copied"), asked)

    def test_nearly_none_and_chosen(self):
        for term in (folded(("more", num(1), NIL)), folded(("first", ("pair", NIL, num(1)))), NIL,
                     ("more", num(1), NIL)):
            self.none(term, ((), "none"))
        for term in (("if", ("less", num(1), num(2)), num(1), num(2)), ("if", ("if", YES, YES, NO), num(1), num(2)), YES,
                     ("if", ("fault", TRUTH), num(1), num(2)), ("if", ("first", ("pair", YES, NO)), num(1), num(2))):
            self.none(term, ((), "chosen"))
        asking = binding(("if", X, num(1), num(2)), x=TRUTH)
        self.none(asking, ((0,), "chosen"))

    def test_at_another_place(self):
        term = ("pair", SHORT, ("pair", CHOSEN, NONE))
        there = {(0,): "short", (1, 0): "chosen", (1, 1): "none"}
        for place, part in at_places(term):
            for rule in RULES:
                if there.get(place) == rule:
                    self.led(None, term, place, rule)
                else:
                    self.none(term, (place, rule))

    def test_anything(self):
        term = binding(("pair", SHORT, CHOSEN), x=A)
        for place in ((2,), (0, 2), (1,), (0, 0, 9), (0, 0, 0, 0, 0, 0, 0), (-1,), (0, -2), (0, -1), (10 ** 39,), [0, 0],
                      (False, 0), (0, False), (0, True), ("0", 0), (0, None), (0, (0,)), None, 0, "", {}, ((0,), 0),
                      ([0], 0), ({}, 0), (0, [])):
            for rule in RULES:
                self.none(term, (place, rule))
        self.led(None, term, (0, 0), "short")
        self.led(None, term, (0, 1), "chosen")
        for rule in ("Short", "", "shorts", None, 0, True, ("short",), ["short"], {}, "fold", "built", " short"):
            self.none(term, ((0, 0), rule))
        good = ((0, 0), "short")
        for lead in (list(good), (good,), (*good, 0), good[:1], good[1:], good[::-1], ((0, 0), "short", ()), {0: good}):
            self.none(term, lead)
        for thing in WRONG:
            for wrong in (thing, (thing, "short"), ((0, 0), thing), ((0, thing), "short"), (thing, thing)):
                if wrong not in (((0, 0), "short"), ((0, 1), "chosen")):
                    self.none(term, wrong)

    def test_no_lead_is_a_refusal(self):
        with self.assertRaises(KindError):
            led_by(num(1), (), ((), "short"))


class Short(Leads):
    def test_the_kinds(self):
        for item, end, turn in ((NUM, NUM, ("plus", X, Y)), (NUM, TRUTH, ("if", Y, ("less", X, num(1)), Y)),
                                (TRUTH, many(TRUTH), ("more", X, Y)), (A, pair(A, NUM), ("pair", X, ("second", Y))),
                                (many(A), many(A), ("fold", X, Y, "u", "v", ("more", name("u"), name("v"))))):
            inner = put(name("i"), N)
            term = binding(("fold", built(inner, item), name("e"), "x", "y", turn), i=item, e=end)
            expected = binding(shorter(inner, name("e"), turn, item, end), i=item, e=end)
            self.assertEqual(self.led(None, term, (0, 0), "short"), expected)

    def test_what_is_built_is_filled(self):
        # The own name is written within: in an item that is thrown away.
        item = ("second", ("pair", ("none", O), num(5)))
        told = self.led(None, folded(built(put(item, N))), (), "short")
        self.assertEqual(told, shorter(put(("second", ("pair", ("none", NUM), num(5))), N)))
        asked = ("if", call(("fun", "k", fun(O, O), YES), ("fun", "k", O, name("k"))), N, ("fold", NIL, N, "u", "v", name("v")))
        filled = ("if", call(("fun", "k", fun(NUM, NUM), YES), ("fun", "k", NUM, name("k"))), N,
                  ("fold", NIL, N, "u", "v", name("v")))
        self.assertEqual(self.led(None, folded(built(asked)), (), "short"), shorter(filled))
        # Nothing else is: the same name beside it.
        beside = ("pair", ("none", O), folded(built(put(item, N)), ("first", ("pair", num(1), ("none", O)))))
        told = self.led(None, beside, (1,), "short")
        self.assertEqual(told[1], ("none", O))
        self.assertEqual(told[2][2], ("first", ("pair", num(1), ("none", O))))

    def test_own_names_that_are_met(self):
        # A built with p of its own, in an item: the fold's kind has p.
        for end in (P, pair(P, NUM), many(either(NUM, P))):
            within = ("built", NUM, "p", "d", "m", call(name("d"), num(4), name("m")))
            item = ("fold", within, num(0), "u", "v", num(1))
            term = folded(built(put(item, N)), ("fault", end), Y)
            told = self.led(shorter(put(replaced(item, 1, replaced(within, 2, "k")), N), ("fault", end), Y, NUM, end), term, (),
                            "short")
            self.assertNotIn("p", own_names(told))
            self.assertTrue(set(own_names(told)).isdisjoint(opens_in(end)))
            # With what stands for it.
            inner = call(("fun", "k", P, ("fun", "l", O, name("k"))), name("m"), ("fault", O))
            deep = ("fold", ("built", NUM, "p", "d", "m", inner), num(0), "u", "v", num(1))
            term = folded(built(put(deep, N)), ("fault", end), Y)
            told = self.led(None, term, (), "short")
            self.assertEqual(len(own_names(told)), 1)

    def test_own_names_that_are_not_met_stay(self):
        within = ("built", NUM, "p", "d", "m", call(name("d"), num(4), name("m")))
        item = ("fold", within, num(0), "u", "v", num(1))
        for end in (NUM, A, many(("open", "own"))):
            term = folded(built(put(item, N)), ("fault", end), Y)
            self.assertEqual(self.led(None, term, (), "short"), shorter(put(item, N), ("fault", end), Y, NUM, end))

    def test_within_a_built_of_the_same_own_name(self):
        # The outer built's names are bound again, so that the inner one may have its own name.
        inner = folded(built(put(("second", ("pair", ("none", O), num(1))), N)), ("fault", O), Y)
        hidden = call(("fun", "c", NUM, ("fun", "n", NUM, inner)), num(1), num(1))
        term = built(hidden)
        self.assertEqual(kind_of(term, ()), many(NUM))
        told = self.led(None, term, (0, 0, 0, 0, 0), "short")
        filled = put(("second", ("pair", ("none", O), num(1))), N)
        expected = built(call(("fun", "c", NUM, ("fun", "n", NUM, shorter(filled, ("fault", O), Y, NUM, O))), num(1), num(1)))
        self.assertEqual(told, expected)

    def test_all_letters_in_use(self):
        letters = "abcdefghijklmnopqrstuvwxyz"
        within = ("built", NUM, "p", "d", "m", call(name("d"), num(4), name("m")))
        item = ("fold", within, num(0), "u", "v", num(1))
        used = num(1)
        for letter in letters:
            used = ("second", ("pair", ("none", ("open", letter)), used))
        for more in ((), ("own", "owna", "ownb")):
            term = folded(built(put(item, N)), ("fault", P), Y)
            for letter in more:
                used = ("second", ("pair", ("none", ("open", letter)), used))
            term = ("pair", used, term)
            looked = tuple(sorted(set(letters) - set("op")))
            told = self.led(None, term, (1,), "short", looked)
            self.assertTrue(set(own_names(told)).isdisjoint({*letters, *more}))
        # And where what is looked at is not written anywhere.
        term = folded(built(put(item, N)), ("fault", P), Y)
        told = self.led(None, term, (), "short", ("own", "owna", "ownc"))
        self.assertTrue(set(own_names(told)).isdisjoint({"own", "owna", "ownc", "p"}))

    def test_two_fewer_steps_for_each_item(self):
        for many_items in range(6):
            inner = N
            for at in range(many_items):
                inner = put(num(at), inner)
            term = folded(built(inner))
            one, other = run(term, ()), run(led_by(term, (), ((), "short")), ())
            self.assertEqual(one[:2], other[:2])
            self.assertEqual(one[2] - other[2], 2 * many_items)
        # Of a list that is folded, with one and two for each item.
        asked = ("more", num(1), ("more", num(2), ("more", num(3), NIL)))
        for turn, many_items in ((put(X, Y), 3), (put(X, put(X, Y)), 6), (("if", ("less", X, num(3)), put(X, Y), Y), 2), (Y, 0)):
            term = folded(built(("fold", asked, N, "x", "y", turn)), num(100))
            one, other = run(term, ()), run(led_by(term, (), ((), "short")), ())
            self.assertEqual(one[:2], other[:2])
            self.assertEqual(one[2] - other[2], 2 * many_items)


class Moved(Leads):
    """What is copied moves to where other names count."""

    def test_an_own_name_that_is_met_by_a_name_bound_again(self):
        within = ("built", NUM, "p", "d", "m", call(name("d"), num(4), name("m")))
        for bound in ("c", "n"):
            for kind in (P, many(P), fun(P, NUM)):
                term = ("fun", bound, kind, copying(within))
                told = self.led(("fun", bound, kind, replaced(within, 2, "k")), term, (0,), "copied")
                self.assertNotEqual(own_names(told), ["p"])
            # Where it is another one that is bound, or of another kind, it stays.
            term = ("fun", bound, A, copying(within))
            self.assertEqual(self.led(None, term, (0,), "copied"), ("fun", bound, A, within))
        # With what stands for it, and one within another.
        inner = call(("fun", "k", P, name("k")), name("m"))
        within = ("built", NUM, "p", "d", "m", inner)
        term = ("fun", "c", P, copying(("fold", ("more", within, ("none", many(NUM))), NIL, "u", "v", name("u"))))
        moved = ("built", NUM, "k", "d", "m", call(("fun", "k", ("open", "k"), name("k")), name("m")))
        self.led(("fun", "c", P, ("fold", ("more", moved, ("none", many(NUM))), NIL, "u", "v", name("u"))), term, (0,), "copied")

    def test_met_beneath_binders_of_what_is_moved(self):
        # c is bound again in what is moved, around the built: there it is not met.
        within = ("built", NUM, "p", "d", "m", name("m"))
        hidden = call(("fun", "c", NUM, within), num(1))
        term = ("fun", "c", P, copying(hidden))
        self.assertEqual(self.led(None, term, (0,), "copied"), ("fun", "c", P, hidden))
        # Met where the case's, fold's, rounds' own names are found by terms with builts that are met themselves.
        asked = ("first", ("pair", ("left", within, NUM), num(1)))
        moved = ("case", asked, "u", ("fold", within, name("u"), "i", "j", name("j")), "v", within)
        term = ("fun", "c", P, copying(moved))
        told = self.led(None, term, (0,), "copied")
        self.assertNotIn("p", own_names(told))
        self.assertEqual(len(own_names(told)), 3)
        rounds = ("rounds", 2, within, "u", ("right", many(NUM), ("fold", within, name("u"), "i", "j", name("j"))))
        told = self.led(None, ("fun", "c", P, copying(rounds)), (0,), "copied")
        self.assertNotIn("p", own_names(told))

    def test_what_stands_for_the_built_itself(self):
        # The built's own name, written in what is moved, is none of its own any more.
        item = ("second", ("pair", ("none", O), ("more", num(1), NIL)))
        self.assertEqual(self.led(None, copying(item), (), "copied"), item)


class Runs(Leads):
    def same(self, term, args, told):
        """The same worth in no more steps; a fault stays one, or is too much."""
        one, other = outcome(term, args), outcome(told, args)
        if one[0] == "worth":
            self.assertEqual(repr(one[:2]), repr(other[:2]), (term, args))
            self.assertLessEqual(other[2], one[2])
        if one[0] == "fault":
            self.assertIn(other[0], ("fault", "too much"))
        return one[0]

    def test_by_hand(self):
        for rule, term, expected in EACH:
            self.assertEqual(self.same(term, (), expected), "worth")
        faulting = folded(built(put(("fault", NUM), N)))
        self.assertEqual(self.same(faulting, (), self.led(None, faulting, (), "short")), "fault")
        # What faults behind the list is come to ahead of it, and the other way round.
        late = folded(built(put(("fault", NUM), N)), num(0), TOO_MUCH)
        self.assertEqual(self.same(late, (), self.led(None, late, (), "short")), "fault")
        begun = folded(built(put(("fault", NUM), N)), TOO_MUCH)
        told = self.led(None, begun, (), "short")
        self.assertEqual(outcome(begun, ()), ("fault", 1))
        self.assertEqual(outcome(told, ())[0], "too much")
        self.assertEqual(self.same(begun, (), told), "fault")
        # A fold of a none throws its turn away.
        self.assertEqual(self.same(folded(NIL, num(1), ("fault", NUM)), (), num(1)), "worth")
        self.assertEqual(self.same(("if", YES, num(1), ("fault", NUM)), (), num(1)), "worth")

    KINDS = (
        (fun(many(A), A, many(A)), ()), (fun(many(NUM), NUM), ()), (fun(A, many(A), pair(A, many(A))), ("a",)),
        (fun(many(B), fun(B, NUM), NUM), ()), (fun(either(A, NUM), many(NUM), many(either(A, NUM))), ()),
        (fun(many(P), O, either(O, P)), ()), (NUM, ()), (many(NUM), ()), (fun(many(O), many(O), O), ("o",)),
    )

    def test_drawn_terms(self):
        rules = {rule: 0 for rule in RULES}
        outcomes = {"worth": 0, "fault": 0, "too much": 0}
        for at, (kind, looked) in enumerate(self.KINDS):
            for seed in range(25):
                terms = LeadTerms(4000 * at + seed, looked)
                term = terms.function(kind, 2 + seed % 3)
                self.assertEqual(kind_of(term, looked), kind)
                self.each_lead(terms, term, kind, looked, rules, outcomes)
        self.assertGreater(min(rules.values()), 50)
        self.assertGreater(min(outcomes["worth"], outcomes["fault"]), 50)

    def each_lead(self, terms, term, kind, looked, rules, outcomes):
        """At each place just the rule goes that goes there by the document's words; led all the way, step by step."""
        args = [tuple(random_worth(terms, argument, (("a", 2), ("b", 2), ("o", 2), ("p", 2))) for argument in arguments(kind))
                for turn in range(2)]
        now, steps = term, []
        while True:
            going = [(place, rule) for place, part in at_places(now) for rule in RULES if goes(rule, part)]
            for place, part in at_places(now):
                for rule in RULES:
                    if (place, rule) not in going:
                        self.assertRaises(NoLead, led_by, now, looked, (place, rule))
            for place, rule in going:
                rules[rule] += 1
                self.led(None, now, place, rule, looked)
            if not going:
                break
            steps.append(going[0])
            told = led_by(now, looked, going[0])
            for handed in args:
                outcomes[self.same(now, handed, told)] += 1
            now = told
        self.assertEqual(led(term, looked), (now, tuple(steps)))
        self.assertIs(leads_holds(term, now, looked, tuple(steps)), True)


def goes(rule, term):
    """The forms of point 21, once more."""
    if rule == "short":
        return term[0] == "fold" and term[1][0] == "built" and slow_straight(*term[1][3:])
    if rule == "none":
        return term[0] == "fold" and term[1][0] == "none"
    if rule == "chosen":
        return term[0] == "if" and term[1][0] == "truth"
    if term[0] != "built" or term[5][0] != "fold":
        return False
    c, n, (word, s, begun, x, y, turn) = term[3:]
    named = [part[1] for place, part in at_places(s) if part[0] == "name"]
    return (begun == name(n) and turn == call(name(c), name(x), name(y)) and len({c, x, y}) == 3
            and c not in named and n not in named)


class AllTheWay(Leads):
    def check(self, expected, paper, term, looked=()):
        told = Unchanged(self).ask(led, term, looked)
        self.assertEqual(told[1], paper)
        self.assertEqual(in_one_way(told[0]), in_one_way(expected))
        self.assertIsInstance(told, tuple)
        self.assertEqual(kind_of(told[0], looked), kind_of(term, looked))
        self.assertIs(leads_holds(term, told[0], looked, paper), True)

    def test_no_rule_goes(self):
        for term in (num(1), binding(X, x=A), binding(folded(X), x=many(NUM)), built(TWO),
                     binding(("if", X, num(1), num(2)), x=TRUTH)):
            self.nowhere(term)

    def test_once(self):
        for rule, term, expected in EACH:
            self.check(expected, (((), rule),), term)

    def test_the_first_place_as_tuples_rise(self):
        both = ("pair", CHOSEN, ("pair", NONE, SHORT))
        self.check(("pair", num(1), ("pair", num(3), shorter(TWO))),
                   (((0,), "chosen"), ((1, 0), "none"), ((1, 1), "short")), both)
        # The outer one first; what is thrown away is not led.
        self.check(num(1), (((), "chosen"),), ("if", YES, num(1), SHORT))
        self.check(num(2), (((), "chosen"), ((), "chosen")), ("if", YES, ("if", NO, SHORT, num(2)), SHORT))
        self.check(num(3), (((), "none"), ((), "none")), folded(NIL, NONE, SHORT))

    def test_a_lead_makes_way_for_another(self):
        chosen = folded(("if", YES, built(TWO), NIL))
        self.check(shorter(TWO), (((0,), "chosen"), ((), "short")), chosen)
        self.check(num(0), (((0,), "chosen"), ((), "none")), folded(("if", NO, built(TWO), NIL)))
        # A fold of a copied list, which is a built again: short goes first, at the whole, and then within.
        inner = ("built", NUM, "p", "d", "m", call(name("d"), num(5), name("m")))
        first = shorter(("fold", inner, N, "x", "y", put(X, Y)))
        within = call(("fun", "d", fun(NUM, NUM, NUM), ("fun", "m", NUM, inner[5])),
                      ("fun", "x", NUM, ("fun", "y", NUM, put(X, Y))), N)
        self.check(shorter(within), (((), "short"), ((0, 0, 0, 0), "short")), folded(copying(inner)))
        self.assertEqual(led_by(folded(copying(inner)), (), ((), "short")), first)
        # Behind a copied one the place is another one's.
        self.check(inner, (((), "copied"),), copying(inner))
        self.check(inner, (((), "copied"), ((), "copied")), copying(("built", NUM, "q", "e", "k", (
            "fold", inner, name("k"), "u", "v", call(name("e"), name("u"), name("v"))))))

    def test_pipelines(self):
        def mapped(asked, own, c, n):
            turn = call(name(c), ("plus", X, num(1)), Y)
            return ("built", NUM, own, c, n, ("fold", asked, name(n), "x", "y", turn))

        for depth in range(1, 5):
            asked = Z
            for level in range(depth):
                asked = mapped(asked, "opqr"[level], "cdef"[level], "mnkl"[level])
            term = binding(folded(asked), z=many(NUM))
            told, paper = led(term, ())
            self.assertEqual(len(paper), depth)
            self.assertEqual({rule for place, rule in paper}, {"short"})
            for length in range(5):
                handed = (items(*range(length)),)
                one, other = run(term, handed), run(told, handed)
                self.assertEqual(one[:2], other[:2])
                self.assertEqual(one[2] - other[2], 2 * length * depth)
            self.assertNotIn("built", [part[0] for place, part in at_places(told)])
            self.assertIs(leads_holds(term, told, (), paper), True)


class Papers(unittest.TestCase):
    THREE = ("pair", CHOSEN, ("pair", NONE, SHORT))
    LED = ("pair", num(1), ("pair", num(3), shorter(TWO)))
    PAPER = (((0,), "chosen"), ((1, 0), "none"), ((1, 1), "short"))

    def check(self, held, one, other, thing, looked=()):
        self.assertIs(Unchanged(self).ask(leads_holds, one, other, looked, thing), held, (one, other, thing))

    def test_any_order_that_goes(self):
        one, two, three = self.PAPER
        for paper in ((one, two, three), (three, two, one), (two, three, one), (two, one, three)):
            self.check(True, self.THREE, self.LED, paper)

    def test_one_left_out_twice_exchanged_or_more(self):
        for at, lead in enumerate(self.PAPER):
            self.check(False, self.THREE, self.LED, self.PAPER[:at] + self.PAPER[at + 1:])
            self.check(False, self.THREE, self.LED, self.PAPER[:at] + (lead,) + self.PAPER[at:])
            for wrong in ((lead[0], "copied"), ((*lead[0], 0), lead[1]), ((), lead[1]), lead[::-1], list(lead), lead[:1], None):
                self.check(False, self.THREE, self.LED, replaced(self.PAPER, at, wrong))
        self.check(False, self.THREE, self.LED, self.PAPER + (((), "chosen"),))
        self.check(False, self.THREE, self.LED, self.PAPER * 2)
        # Where one makes way for the other, they go in this order alone.
        term = folded(("if", YES, built(TWO), NIL))
        self.check(True, term, shorter(TWO), (((0,), "chosen"), ((), "short")))
        self.check(False, term, shorter(TWO), (((), "short"), ((0,), "chosen")))

    def test_part_of_the_way(self):
        self.check(True, self.THREE, ("pair", num(1), self.THREE[2]), self.PAPER[:1])
        self.check(True, self.THREE, self.THREE, ())
        self.check(True, num(1), num(1), ())
        self.check(False, self.THREE, self.LED, ())
        self.check(False, num(1), num(2), ())
        self.check(False, self.LED, self.THREE, self.PAPER)
        self.check(False, self.LED, self.LED, self.PAPER)

    def test_other_ways_through_the_same_term(self):
        # What will be thrown away is led first.
        term = ("if", YES, num(1), CHOSEN)
        self.check(True, term, num(1), (((), "chosen"),))
        self.check(True, term, num(1), (((2,), "chosen"), ((), "chosen")))
        self.check(False, term, num(1), (((), "chosen"), ((2,), "chosen")))

    def test_other_own_names(self):
        def inner(own, kind):
            return ("built", NUM, own, "d", "m", call(("fun", "k", ("open", kind), name("k")), name("m")))

        one = ("pair", CHOSEN, inner("o", "o"))
        paper = (((0,), "chosen"),)
        for own in ("o", "p", "k", "own"):
            self.check(True, one, ("pair", num(1), inner(own, own)), paper)
            self.check(True, one, ("pair", CHOSEN, inner(own, own)), ())
        # Term names are not own names.
        self.check(False, one, ("pair", num(1), ("built", NUM, "o", "e", "m", call(("fun", "k", O, name("k")), name("m")))),
                   paper)
        self.check(False, one, ("pair", num(1), ("built", TRUTH, "o", "d", "m", inner("o", "o")[5])), paper)

    def test_an_own_name_that_catches_a_free_one(self):
        def inner(own, free):
            return ("built", NUM, own, "d", "m", call(("fun", "k", many(("open", free)), name("m")), ("none", ("open", free))))

        self.check(True, inner("o", "a"), inner("p", "a"), ())
        self.check(False, inner("o", "a"), inner("a", "a"), ())
        self.check(False, inner("o", "a"), inner("o", "o"), ())
        self.check(False, inner("o", "a"), inner("o", "b"), ())
        self.check(True, inner("o", "o"), inner("a", "a"), ())
        self.check(False, inner("o", "o"), inner("o", "a"), ())
        # Free in one, not bound in the other: beside, not within.
        self.check(False, ("pair", ("none", O), inner("o", "a")), ("pair", ("none", P), inner("p", "a")), ())

    def test_own_names_within_one_another(self):
        def two(one, other, first, second):
            deep = ("built", NUM, other, "e", "l", call(
                ("fun", "k", ("open", second), ("fun", "i", many(("open", first)), name("k"))), name("l"), ("none", (
                    "open", first))))
            return ("built", NUM, one, "d", "m", call(("fun", "k", many(NUM), name("m")), deep))

        self.check(True, two("o", "p", "o", "p"), two("p", "o", "p", "o"), ())
        self.check(True, two("o", "p", "o", "p"), two("k", "l", "k", "l"), ())
        self.check(False, two("o", "p", "o", "p"), two("o", "p", "p", "p"), ())
        self.check(False, two("o", "p", "o", "p"), two("p", "o", "o", "o"), ())
        # In a built's items' kind its own name is not its own yet.
        outer = ("built", many(O), "p", "d", "m", name("m"))
        self.check(True, outer, ("built", many(O), "k", "d", "m", name("m")), ())
        self.check(False, outer, ("built", many(P), "o", "d", "m", name("m")), ())

    def test_where_a_new_own_name_was_taken(self):
        within = ("built", NUM, "p", "d", "m", call(name("d"), num(4), name("m")))
        term = ("fun", "c", P, copying(within))
        for own in ("o", "k", "own", "zzz"):
            self.check(True, term, ("fun", "c", P, replaced(within, 2, own)), (((0,), "copied"),))
        self.check(False, term, ("fun", "c", O, replaced(within, 2, "k")), (((0,), "copied"),))

    def test_anything(self):
        for thing in WRONG:
            self.check(thing == (), num(1), num(1), thing)
            self.check(False, self.THREE, self.LED, thing)
            for at in range(3):
                self.check(False, self.THREE, self.LED, replaced(self.PAPER, at, thing))
                right = thing == self.PAPER[at][0]
                self.check(right, self.THREE, self.LED, replaced(self.PAPER, at, (thing, self.PAPER[at][1])))
                self.check(False, self.THREE, self.LED, replaced(self.PAPER, at, (self.PAPER[at][0], thing)))
        self.check(False, self.THREE, self.LED, list(self.PAPER))
        self.check(False, self.THREE, self.LED, tuple(list(lead) for lead in self.PAPER))
        self.check(False, self.THREE, self.LED, (((False,), "chosen"), *self.PAPER[1:]))


if __name__ == "__main__":
    unittest.main()
