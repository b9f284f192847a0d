import unittest

from kindalone.desk import Desk
from kindalone.errors import Broken, KindError, NoBack, NoKind, NoName, NoRow, Ring, Taken, Used
from kindalone.kinds import result_of
from kindalone.parting import parted
from kindalone.running import run
from kindalone.showing import shown
from kindalone.termtexts import show_term
from kindalone.worthtexts import show_worth
from tests.randomterms import Terms, parts_of_term
from tests.samples import A, B, NUM, TOO_MUCH, TRUTH, WRONG, binding, call, either, fun, items, many, name, num, pair
from tests.slow import arguments
from tests.test_running import random_worth
from tests.test_stands import ALIKE, BUILT, COPY, NEXT, SAME, shown as stand_shown, told, wide

X, Y, F = name("x"), name("y"), name("f")
FIRST = binding(X, x=A, y=A)
SECOND = binding(Y, x=A, y=A)
FAILING = binding(("if", ("alike", X, Y), X, ("fault", A)), x=A, y=A)
HIGHER = binding(call(F, X), f=fun(NUM, NUM), x=NUM)
LISTING = binding(X, x=A, f=fun(A, many(A)))
MUCH = binding(("plus", TOO_MUCH, X), x=NUM)
LOOSE = "1 a 2 1 2 0 0 1 0"
CROSSED = "1 a 2 2 2 0 1 1 0"


class DeskCase(unittest.TestCase):
    def setUp(self):
        self.desk = Desk()

    def tell(self, x, term, *looked, word="tell", answer="ok"):
        row = " ".join([word, x, str(len(looked)), *looked, show_term(term)])
        self.says(answer, row)

    def says(self, answer, row):
        before = stand_shown(self.desk.stand)
        told_answer = self.desk.say(row)
        self.assertEqual(told_answer, answer, row)
        self.assertIsInstance(told_answer, str)
        if answer != "ok":
            self.assertEqual(stand_shown(self.desk.stand), before)
            self.assertEqual(self.desk.say(row), answer)

    def refused(self, error, row):
        before = stand_shown(self.desk.stand)
        with self.assertRaises(error) as caught:
            self.desk.say(row)
        self.assertIs(type(caught.exception), error, row)
        self.assertEqual(stand_shown(self.desk.stand), before)
        return caught.exception

    def no_rows(self, *rows):
        for row in rows:
            self.refused(NoRow, row)


class Deeds(DeskCase):
    def test_tell(self):
        self.says("ok", "tell same 0 fun x open a name x")
        self.says("ok", "tell alike 1 a fun x open a fun y open a alike name x name y")
        self.says("ok", "tell g 0 fun x num call told same 1 a num name x")
        self.assertEqual(self.desk.stand.names(), ("same", "alike", "g"))
        self.assertEqual(self.desk.stand.looked("alike"), ("a",))
        self.assertEqual(self.desk.stand.kind("g"), fun(NUM, NUM))
        both = "fun x open a fun y open b pair alike name x name x alike name y name y"
        self.says("ok", f"tell both 2 a b {both}")

    def test_what_the_stand_refuses(self):
        term = "fun x open a name x"
        for x in ("F", "abcdefghi", "1", "0", "a1", "-", "fun-x", "~", "a\n", "a.b"):
            self.refused(NoName, f"tell {x} 0 {term}")
            self.refused(NoName, f"retell {x} 0 {term}")
            self.refused(NoName, f"drop {x}")
        self.says("ok", f"tell f 0 {term}")
        self.refused(Taken, f"tell f 0 {term}")
        self.refused(NoKind, "tell g 0 name x")
        self.refused(NoKind, "tell g 0 num 1")
        self.refused(NoKind, f"tell g 1 b {term}")
        self.refused(NoKind, "retell f 0 name x")
        self.refused(Ring, "retell f 0 told f 0")
        self.says("ok", "tell g 0 fun x num call told f 1 a num name x")
        self.assertEqual(self.refused(Broken, "retell f 0 fun x num name x").name, "g")
        self.assertEqual(self.refused(Used, "drop f").name, "g")
        self.refused(NoBack, "back 3")
        self.refused(NoBack, "back 61")
        self.refused(NoBack, "back 1000000000000000000000000000000000000000")

    def test_retell_drop_and_back(self):
        self.tell("f", SAME)
        self.tell("g", NEXT)
        self.tell("f", NEXT, word="retell")
        self.assertEqual(self.desk.stand.kind("f"), fun(NUM, NUM))
        self.tell("f", ALIKE, "a", word="retell")
        self.assertEqual(self.desk.stand.looked("f"), ("a",))
        self.says("ok", "drop g")
        self.assertEqual(self.desk.stand.names(), ("f",))
        self.says("ok", "back 2")
        self.assertEqual(self.desk.stand.names(), ("f", "g"))
        self.assertEqual(self.desk.stand.deeds(), 2)
        self.says("ok", "back 2")
        self.says("ok", "back 0")
        self.assertEqual(self.desk.stand.names(), ())

    def test_too_many_of_tell_and_retell(self):
        self.tell("f", wide(196))
        self.tell("g", binding(call(told("f"), X), x=NUM))
        self.tell("h", binding(call(told("g"), X), x=NUM), answer="too many")
        self.tell("f", wide(198), word="retell", answer="too many")
        self.tell("f", wide(194), word="retell")
        self.assertEqual(self.desk.stand.deeds(), 3)

    def test_looks(self):
        term = "fun x open a fun y open b pair alike name x name x alike name y name y"
        self.no_rows(f"tell f 2 b a {term}", f"tell f 2 a a {term}", f"tell f 1 a b {term}", f"tell f 3 a b {term}",
                     f"tell f a b {term}", f"tell f 02 a b {term}", f"tell f 2 A b {term}", f"tell f 2 abcdefghi b {term}",
                     f"tell f -1 {term}", f"tell f yes {term}", f"tell f {term}", "tell f 0", "tell f", "tell",
                     f"tell f 99999999999999999999 {term}")
        self.says("ok", f"tell f 2 a b {term}")

    def test_terms(self):
        for text in ("fun x open a name x ", " fun x open a name x", "fun x  open a name x", "fun x open a", "fun x open a name",
                     "fun x open a name x name x", "Fun x open a name x", "fun x fun fun num num num name x",
                     "fun x num rounds 31 name x y right num name y", "fun x num plus name x num 01", "fun x num fold name x "
                     "num 0 y y name y", "fun x open a name x\n", ""):
            self.no_rows(f"tell f 0 {text}", f"retell f 0 {text}")


class Bounds(DeskCase):
    def tells(self, held, term):
        for word in ("tell", "retell"):
            desk = Desk()
            desk.say("tell g 0 fun x num name x")
            row = f"{word} {'f' if word == 'tell' else 'g'} 0 {show_term(term)}"
            if held:
                self.assertEqual(desk.say(row), "ok", row)
            else:
                with self.assertRaises(NoRow):
                    desk.say(row)
                self.assertEqual(desk.stand.deeds(), 1)

    def test_parts_of_a_term(self):
        self.tells(True, wide(200))
        self.tells(False, wide(202))
        # 199 and a left around it: 200; two: 201.
        base = wide(198)[3]
        self.tells(True, binding(("left", ("left", base, NUM), NUM), x=NUM))
        self.tells(False, binding(("left", ("left", ("left", base, NUM), NUM), NUM), x=NUM))

    def test_deep_terms(self):
        for levels, held in ((20, True), (21, False)):
            inner = X
            for level in range(levels - 2):
                inner = ("plus", inner, num(1))
            self.assertEqual(parts_of_term(binding(inner, x=NUM))[1], levels)
            self.tells(held, binding(inner, x=NUM))

    def test_numbers(self):
        self.tells(True, binding(("plus", X, num(10 ** 6)), x=NUM))
        self.tells(False, binding(("plus", X, num(10 ** 6 + 1)), x=NUM))
        self.tells(True, binding(("plus", X, ("rounds", 30, X, "x", ("right", NUM, X))), x=NUM))

    def test_kinds_in_a_term(self):
        def listed(parts):
            kind = NUM
            for level in range(parts - 1):
                kind = many(kind)
            return kind

        for parts, held in ((60, True), (61, False)):
            for term in (("fun", "y", listed(parts), X), ("second", ("pair", ("none", listed(parts)), X)),
                         ("second", ("pair", ("left", X, listed(parts)), X)),
                         ("second", ("pair", ("right", listed(parts), X), X)), ("fault", listed(parts)),
                         ("second", ("pair", ("built", listed(parts), "o", "c", "n", name("n")), X))):
                self.tells(held, binding(term, x=NUM))
        five = [("open", letter) for letter in "abcde"]
        for kinds, held in ((five[:4], True), (five, False)):
            kind = kinds[0]
            for other in kinds[1:]:
                kind = pair(kind, other)
            self.tells(held, binding(("fault", kind), x=NUM))
        # Each kind by itself: the function's own kind may have more.
        self.tells(True, binding(X, x=NUM, **{letter: ("open", letter) for letter in "abcde"}))
        for many_arguments, held in ((4, True), (5, False)):
            self.tells(held, binding(X, x=NUM, f=fun(*[NUM] * many_arguments, A)))
        self.tells(True, binding(X, x=NUM, y=NUM, z=NUM, u=NUM, v=NUM, w=NUM))

    def test_kinds_of_fills(self):
        self.tell("same", SAME)
        kind = NUM
        for level in range(59):
            kind = many(kind)
        self.tell("f", told("same", a=kind))
        self.assertGreater(len(show_term(told("same", a=kind))), 60)
        self.refused(NoRow, f"tell g 0 {show_term(told('same', a=many(kind)))}")
        # What is found may be greater than what is handed in.
        self.assertEqual(result_of(self.desk.stand.kind("f")), kind)
        self.tell("h", told("same", a=pair(A, B)))
        self.tell("k", told("h", a=pair(A, B), b=pair(("open", "c"), pair(("open", "d"), A))))
        self.tell("l", told("k", a=pair(A, ("open", "e")), b=B, c=A, d=A))

    def test_settings_and_bounds(self):
        self.tell("f", SAME)
        self.says("holds 2", f"says f 3 {CROSSED}")
        self.no_rows(f"says f 4 {CROSSED}", "alike f f 4", f"says f 10 {CROSSED}", "alike f f 99")
        self.says("alike", "alike f f 3")
        self.says("holds 0", "says f 0 1 a 3 3 0")
        self.no_rows("says f 0 1 a 4 3 0", "says f 0 1 a 3 4 0")
        self.says("holds 0", "says f 0 4 a 3 3 0 b 0 0 0 c 1 1 0 d 2 2 0")
        self.no_rows("says f 0 5 a 3 3 0 b 0 0 0 c 1 1 0 d 2 2 0 e 0 0 0")

    def test_arguments(self):
        self.tell("f", binding(X, x=many(NUM)))
        self.tell("g", binding(X, x=many(many(NUM))))
        self.tell("h", binding(call(F, ("truth", True)), f=fun(TRUTH, many(NUM))))
        self.tell("n", binding(X, x=NUM))
        twelve, more = show_worth(items(*range(12))), show_worth(items(*range(13)))
        self.says(twelve, f"run f {twelve}")
        self.refused(NoRow, f"run f {more}")
        self.says(f"list 1 {twelve}", f"run g list 1 {twelve}")
        self.refused(NoRow, f"run g list 1 {more}")
        self.says(twelve, f"run h table 2 no list 0 yes {twelve}")
        self.refused(NoRow, f"run h table 2 no list 0 yes {more}")
        self.refused(NoRow, f"run h table 2 no {more} yes list 0")
        great = 10 ** 30
        self.says(str(great), f"run n {great}")
        self.refused(NoRow, f"run n {great + 1}")
        self.refused(NoRow, f"run f list 1 {great + 1}")
        self.refused(NoRow, f"run h table 2 no list 1 {great + 1} yes list 0")

    def test_the_seventeenth_function(self):
        for letter in "abcdefghijklmnop":
            self.tell(letter, NEXT)
        self.assertEqual(len(self.desk.stand.names()), 16)
        self.refused(NoRow, f"tell q 0 {show_term(NEXT)}")
        self.tell("a", SAME, word="retell")
        self.says("ok", "drop a")
        self.tell("q", NEXT)
        self.refused(NoRow, f"tell a 0 {show_term(NEXT)}")
        self.says("ok", "back 0")
        self.tell("q", NEXT)

    def test_the_sixty_first_deed(self):
        self.tell("f", NEXT)
        self.tell("g", NEXT)
        for turn in range(58):
            self.tell("f", NEXT, word="retell")
        self.assertEqual(self.desk.stand.deeds(), 60)
        self.no_rows(f"tell h 0 {show_term(NEXT)}", f"retell f 0 {show_term(NEXT)}", "drop g")
        self.says("5", "run f 4")
        self.says("alike", "alike f g 1")
        self.says("ok", "back 60")
        self.no_rows("drop g")
        self.says("ok", "back 59")
        self.says("ok", "drop g")
        self.no_rows("drop f")


class Answers(DeskCase):
    def test_run(self):
        self.tell("f", FIRST)
        self.says("thing a 5", "run f thing a 5 thing a 0")
        self.tell("next", NEXT)
        self.says("8", "run next 7")
        self.tell("g", binding(call(told("next"), call(told("next"), X)), x=NUM))
        self.says("9", "run g 7")
        self.tell("fault", binding(("fault", NUM), x=A))
        self.says("fault", "run fault thing a 0")
        self.tell("pair", binding(("pair", Y, X), x=either(A, NUM), y=many(TRUTH)))
        self.says("pair list 2 yes no left thing a 1", "run pair left thing a 1 list 2 yes no")
        self.says("pair list 0 right 3", "run pair right 3 list 0")
        self.tell("ask", binding(("if", call(F, X), num(1), num(2)), f=fun(A, TRUTH), x=A))
        self.says("1", "run ask table 2 thing a 0 yes thing a 1 no thing a 0")
        self.says("2", "run ask table 2 thing a 0 yes thing a 1 no thing a 1")
        self.says("fault", "run ask table 2 thing a 0 yes thing a 1 fault thing a 1")

    def test_run_with_other_arguments(self):
        self.tell("f", FIRST)
        self.no_rows("run f", "run f thing a 0", "run f thing a 0 thing a 1 thing a 1", "run f thing a 0 thing b 0",
                     "run f thing a 0 1", "run f thing a 0 yes", "run f thing a 0 list 0", "run f thing a 0 thing",
                     "run f thing a 0 thing a", "run f thing a 0 thing a 01", "run f thing a 0 thing a -1",
                     "run f thing a 0  thing a 1", "run f thing a 0 thing a 1 ", "run f thing A 0 thing a 1",
                     "run f thing a 0 made 0 1 thing a 0", "run f thing a 0 open a")
        self.tell("ask", binding(call(F, X), f=fun(A, TRUTH), x=A))
        self.no_rows("run ask table 1 thing a 0 yes thing a 1", "run ask table 2 thing a 1 yes thing a 0 no thing a 1",
                     "run ask table 0 thing a 0", "run ask table 2 thing a 0 yes thing a 0 no thing a 0",
                     "run ask table 1 thing a 0 3 thing a 0", "run ask maker 0 1 thing a 0", "run ask thing a 0 thing a 0",
                     "run ask table 1 thing a 0 yes", "run ask table 2 thing a 0 yes thing a 0", "run ask fault thing a 0")
        self.tell("two", binding(X, x=NUM, f=fun(A, TRUTH), g=fun(A, TRUTH)))
        self.says("1", "run two 1 table 1 thing a 0 yes table 1 thing a 0 no")
        self.no_rows("run two 1 table 1 thing a 0 yes table 0", "run two 1 table 1 thing a 0 yes table 2 thing a 0 no thing a 1 no")
        self.tell("make", binding(call(F, X), f=fun(A, A), x=A))
        self.no_rows("run make maker 0 1 thing a 0")

    def test_names_that_do_not_stand(self):
        self.tell("f", SAME)
        for x in ("g", "F", "1", "abcdefghi", "ff"):
            self.refused(NoName, f"run {x} thing a 0")
            self.refused(NoName, f"run {x}")
            self.refused(NoName, f"run {x} 5 list 0 yes")
            self.refused(NoName, f"says {x} 0 {LOOSE}")
            self.refused(NoName, f"alike {x} f 0")
            self.refused(NoName, f"alike f {x} 0")
            # What is no row is so ahead of it.
            self.no_rows(f"run {x} thing a", f"run {x} list 1", f"says {x} 4 {LOOSE}", f"says {x} 0 1 a", f"alike {x} f 4",
                         f"alike {x} f", f"run {x} {10 ** 30 + 1}", f"says {x} 0 1 a 4 4 0")

    def test_kinds_that_are_not_walked(self):
        self.tell("f", HIGHER)
        self.tell("g", SAME)
        self.no_rows("run f 1 2", "run f", "run f table 0 1", f"says f 0 {LOOSE}", "alike f f 0", "alike f g 0", "alike g f 0")
        self.refused(NoRow, "alike h f 0")
        self.refused(NoRow, "alike f h 0")

    def test_too_much(self):
        self.tell("f", MUCH)
        self.says("too much", "run f 0")
        self.says("too much", "says f 0 0")
        self.says("too much", "alike f f 0")
        self.tell("g", binding(("plus", X, X), x=NUM))
        self.says("too much", f"run g {10 ** 30}")
        self.tell("h", binding(X, x=NUM))
        self.says("too much", "alike h f 0")
        self.says("too much", "alike f h 0")

    def test_too_many(self):
        great = pair(pair(NUM, NUM), pair(NUM, NUM))
        self.tell("f", binding(X, x=great))
        self.says("too many", "says f 3 0")
        self.says("too many", "alike f f 3")
        self.says("holds 81", "says f 2 0")
        self.says("alike", "alike f f 2")
        self.tell("g", binding(("second", ("pair", TOO_MUCH, X)), x=great))
        # Ahead of too much.
        self.says("too many", "says g 3 0")
        self.says("too many", "alike f g 3")
        self.says("too much", "says g 0 0")

    def test_says(self):
        self.tell("same", SAME)
        self.tell("alike", ALIKE, "a")
        self.tell("copy", COPY)
        self.says("holds 2", f"says same 0 {LOOSE}")
        self.says("holds 4", f"says alike 0 {CROSSED}")
        self.says("fails", f"says alike 0 {LOOSE}")
        self.says("holds 1", f"says copy 0 {LOOSE}")
        self.says("holds 3", f"says copy 1 {LOOSE}")
        self.says("holds 15", f"says copy 3 {LOOSE}")
        self.tell("next", NEXT)
        self.says("holds 3", "says next 2 0")
        self.says("holds 3", f"says next 2 {LOOSE}")
        self.says("holds 0", "says same 2 1 a 0 0 0")

    def test_settings_otherwise(self):
        self.tell("same", SAME)
        self.tell("both", binding(X, x=A, y=B))
        self.no_rows("says same 0 0", "says same 0 1 b 2 1 0", "says both 0 1 a 1 1 0", "says both 0 1 b 1 1 0",
                     "says same 0 1 a 2 1 2 1 0 0 0", "says same 0 1 a 2 1 2 0 0 0 0", "says same 0 1 a 2 1 1 0 1",
                     "says same 0 1 a 2 1 1 2 0", "says same 0 2 a 1 1 0 a 1 1 0", "says same 0 2 b 1 1 0 a 1 1 0",
                     "says same 0 1 a 2 1", "says same 0 1 a 2 1 1 0", "says same 0 1 a 2 1 0 0", "says same 0 1 A 2 1 0",
                     "says same 0", "says same", "says", "says same 0 2 a 1 1 0", "says same -1 1 a 1 1 0",
                     "says same 00 1 a 1 1 0", "says same 0 1 a 01 1 0", "says same 0 1 a 1 1 00", "says same 0 01 a 1 1 0",
                     "says same 0 1 a 1 1 1 0 00", "says same yes 1 a 1 1 0")
        self.says("holds 1", "says both 0 2 a 1 1 1 0 0 b 1 1 1 0 0")

    def test_alike(self):
        self.tell("f", FIRST)
        self.tell("g", SECOND)
        self.tell("h", binding(call(binding(X, x=A), X), x=A, y=A))
        self.says("alike", "alike f f 0")
        self.says("alike", "alike f h 0")
        self.says("parted", "alike f g 0")
        self.tell("k", FAILING, "a")
        self.says("parted", "alike f k 0")
        self.says("parted", "alike k f 0")
        self.tell("same", SAME)
        self.no_rows("alike f same 0", "alike same f 0", "alike f f", "alike f f 0 0", "alike f 0", "alike f f 00", "alike f f -1",
                     "alike  f f 0", "alike f  f 0", "alike f f 0 ", "alike f f yes")
        self.tell("l", LISTING)
        self.says("unbounded 1", "alike l l 0")
        self.tell("m", binding(X, f=fun(A, A), x=A), "a")
        self.says("unbounded 0", "alike m m 0")
        # By both's looks: neither is bounded, though one of them does not look.
        self.tell("n", binding(X, f=fun(A, A), x=A))
        self.says("alike", "alike n n 0")
        self.says("unbounded 0", "alike n m 0")
        self.says("unbounded 0", "alike m n 0")

    def test_by_both_looks(self):
        # What one looks at parts it from the other at things that are alike alone.
        self.tell("f", binding(num(1), x=A, y=A))
        self.tell("g", binding(("if", ("alike", X, Y), num(2), num(1)), x=A, y=A), "a")
        self.says("parted", "alike f g 0")
        self.says("parted", "alike g f 0")
        one = binding(("if", ("alike", X, X), num(1), num(2)), x=A, y=B)
        other = binding(("if", ("alike", Y, Y), num(1), num(2)), x=A, y=B)
        self.tell("h", one, "a")
        self.tell("k", other, "b")
        self.says("alike", "alike h k 0")

    def test_own_names_that_the_other_looks_at(self):
        # A built of its own name o, beneath an o that is bound again: the other one looks at o.
        o = ("open", "o")
        inner = ("built", NUM, "o", "c", "n", call(name("c"), num(5), name("n")))
        built = ("fun", "x", o, call(("fun", "x", NUM, inner), num(1)))
        looking = ("fun", "x", o, ("if", ("alike", X, X), ("more", num(5), ("none", NUM)), ("none", NUM)))
        self.tell("f", built)
        self.tell("g", looking, "o")
        self.says("alike", "alike f g 0")
        self.says("alike", "alike g f 0")
        self.tell("h", ("fun", "x", o, ("if", ("alike", X, X), ("none", NUM), ("none", NUM))), "o")
        self.says("parted", "alike f h 0")
        self.tell("k", binding(call(told("f", o=o), X), x=o), "o")
        self.says("alike", "alike k f 0")
        self.says("list 1 5", "run k thing o 0")

    def test_wholes_are_used(self):
        self.tell("copy", BUILT)
        self.tell("nums", binding(call(told("copy", a=NUM), X), x=many(NUM)))
        self.says("list 2 3 4", "run nums list 2 3 4")
        self.tell("copy", binding(("none", A), x=many(A)), word="retell")
        self.says("list 0", "run nums list 2 3 4")
        self.says("ok", "back 2")
        self.says("list 2 3 4", "run nums list 2 3 4")


class Rows(DeskCase):
    def test_what_is_no_row(self):
        self.tell("f", NEXT)
        self.no_rows("", " ", "tel", "TELL f 0 num 1", "Tell", " drop f", "drop f ", "drop  f", "drop", "drop ", "drop f f", "back",
                     "back ", "back x", "back -1", "back 01", "back 00", "back 1 ", "back 1 1", "back 1.0", "back yes", "run",
                     "run ", "ok", "drop\nf", "drop\tf", "\n", "run f 1\n", "run f 01", "run f 1 2", "run  f 1", "run f  1",
                     "back 0x1", "back +1", "back 1_0", "tell", "retell", "says", "alike", "alike f", "holds", "run f one")

    def test_things_that_are_no_texts(self):
        self.tell("f", NEXT)
        for thing_said in WRONG:
            self.refused(NoRow, thing_said)
        for thing_said in (None, 0, 1, True, ("drop", "f"), ["drop f"], ("drop f",), {"drop": "f"}, b"drop f", ("drop f", ())):
            self.refused(NoRow, thing_said)
        self.assertEqual(self.desk.stand.names(), ("f",))

    def test_long_texts(self):
        self.no_rows("a" * 2000, " " * 2000, "run " * 500, "tell f 0 " + "plus " * 380, "drop " + "a " * 900, "9" * 2000,
                     "back " + "x" * 1990)
        self.refused(NoBack, "back " + "9" * 1990)
        self.refused(NoName, "drop " + "a" * 1990)

    def test_two_desks(self):
        self.tell("f", NEXT)
        other = Desk()
        with self.assertRaises(NoName):
            other.say("run f 1")
        other.say("tell f 0 fun x num num 1")
        self.says("2", "run f 1")
        self.assertEqual(other.say("run f 1"), "1")


class Drawn(DeskCase):
    def test_drawn_functions(self):
        """What a desk answers of drawn functions is what is told of them."""
        seen = {}
        kinds = ((fun(A, A, A), ()), (fun(many(A), A, many(A)), ("a",)), (fun(fun(A, TRUTH), A, A, A), ()), (fun(NUM, NUM), ()),
                 (fun(A, A, TRUTH), ("a",)))
        for at, (kind, looked) in enumerate(kinds):
            for seed in range(25):
                self.desk = Desk()
                terms = Terms(800 * at + seed, looked, seed % 2 == 0)
                one, other = [self.drawn(terms, kind) for turn in range(2)]
                for x, term in (("f", one), ("g", other)):
                    looks = looked if seed % 3 else ()
                    try:
                        self.tell(x, term, *looks)
                    except NoKind:
                        self.tell(x, term, *looked)
                both = tuple(sorted({*self.desk.stand.looked("f"), *self.desk.stand.looked("g")}))
                args = tuple(random_worth(terms, argument, (("a", 2),)) for argument in arguments(kind))
                row = " ".join(["run f", *[show_worth(worth) for worth in args]])
                self.answers(seen, row, lambda: run(one, args), lambda told: show_worth(told[1]) if told[0] == "worth" else "fault")
                setting = (("a", 2, 1, ((0, 0), (1, 0))),)
                self.answers(seen, f"says f 1 {LOOSE}", lambda: shown(one, self.desk.stand.looked("f"), setting, 1),
                             lambda told: f"holds {len(told[1])}" if told[0] == "holds" else "fails")
                self.answers(seen, "alike f g 1", lambda: parted(one, other, both, 1),
                             lambda told: "alike" if told is None else "parted")
        for word in ("holds", "fails", "alike", "parted", "fault"):
            self.assertGreater(seen.get(word, 0), 0, seen)

    def drawn(self, terms, kind):
        while True:
            term = terms.function(kind, 3)
            if len(show_term(term)) < 1900:
                return term

    def answers(self, seen, row, ask, answer):
        try:
            expected = answer(ask())
        except KindError as refusal:
            expected = {"TooMany": "too many", "TooMuch": "too much"}[type(refusal).__name__]
        seen[expected.split(" ")[0]] = seen.get(expected.split(" ")[0], 0) + 1
        self.says(expected, row)


if __name__ == "__main__":
    unittest.main()
