import unittest

from kindalone.errors import KindError, NoText
from kindalone.kindtexts import read_kind, show_kind
from kindalone.kinds import is_kind
from kindalone.terms import is_term
from kindalone.termtexts import read_term, show_term
from kindalone.worthtexts import read_worth, show_worth
from tests.samples import A, B, NUM, TRUTH, WRONG, Unchanged, either, fun, many, name, nested, pair

A0 = ("thing", "a", 0)
T = ("num", 3)
KINDS = (
    (A, "open a"),
    (("open", "abcdefgh"), "open abcdefgh"),
    (("open", "open"), "open open"),
    (("open", "fun"), "open fun"),
    (NUM, "num"),
    (TRUTH, "truth"),
    (pair(A, NUM), "pair open a num"),
    (either(TRUTH, B), "either truth open b"),
    (many(many(NUM)), "list list num"),
    (fun(A, B), "fun open a open b"),
    (fun(A, B, NUM), "fun open a fun open b num"),
    (fun(fun(A, B), many(A), many(B)), "fun fun open a open b fun list open a list open b"),
    (pair(("open", "pair"), either(("open", "list"), NUM)), "pair open pair either open list num"),
)
TERMS = (
    (("name", "x"), "name x"),
    (("name", "name"), "name name"),
    (("fun", "x", A, name("x")), "fun x open a name x"),
    (("fun", "fun", ("open", "open"), name("fun")), "fun fun open open name fun"),
    (("fun", "num", fun(A, NUM), name("num")), "fun num fun open a num name num"),
    (("call", name("f"), T), "call name f num 3"),
    (("num", 0), "num 0"),
    (("num", 1000000), "num 1000000"),
    (("plus", T, ("num", 10)), "plus num 3 num 10"),
    (("less", T, T), "less num 3 num 3"),
    (("truth", True), "truth yes"),
    (("truth", False), "truth no"),
    (("if", ("truth", True), T, name("yes")), "if truth yes num 3 name yes"),
    (("pair", T, T), "pair num 3 num 3"),
    (("first", name("first")), "first name first"),
    (("second", T), "second num 3"),
    (("left", T, many(A)), "left num 3 list open a"),
    (("right", pair(A, B), T), "right pair open a open b num 3"),
    (("case", name("s"), "x", T, "x", name("x")), "case name s x num 3 x name x"),
    (("none", A), "none open a"),
    (("more", T, ("none", NUM)), "more num 3 none num"),
    (("fold", name("s"), T, "x", "y", name("y")), "fold name s num 3 x y name y"),
    (("built", NUM, "o", "c", "n", name("n")), "built num o c n name n"),
    (("built", ("open", "list"), "num", "fun", "num", name("num")), "built open list num fun num name num"),
    (("alike", name("x"), name("y")), "alike name x name y"),
    (("fault", either(A, NUM)), "fault either open a num"),
    (("rounds", 30, T, "x", ("right", NUM, T)), "rounds 30 num 3 x right num num 3"),
    (("rounds", 1, T, "x", T), "rounds 1 num 3 x num 3"),
    (("told", "f", ()), "told f 0"),
    (("told", "f", (("a", NUM),)), "told f 1 a num"),
    (("told", "told", (("a", many(A)), ("fun", NUM), ("num", ("open", "num")))),
     "told told 3 a list open a fun num num open num"),
    (("call", ("told", "f", (("a", NUM), ("b", A))), T), "call told f 2 a num b open a num 3"),
)
WORTHS = (
    (A0, "thing a 0"),
    (("thing", "thing", 12), "thing thing 12"),
    (("thing", "yes", 0), "thing yes 0"),
    (0, "0"),
    (1, "1"),
    (10 ** 30, "1" + "0" * 30),
    (True, "yes"),
    (False, "no"),
    (("pair", 1, True), "pair 1 yes"),
    (("left", A0), "left thing a 0"),
    (("right", ("left", False)), "right left no"),
    (("list", ()), "list 0"),
    (("list", (1,)), "list 1 1"),
    (("list", (3, 2, 1)), "list 3 3 2 1"),
    (("list", (("list", ()), ("list", (A0,)))), "list 2 list 0 list 1 thing a 0"),
    (("table", ()), "table 0"),
    (("table", ((A0, 1),)), "table 1 thing a 0 1"),
    (("table", ((False, ("fault",)), (True, A0))), "table 2 no fault yes thing a 0"),
    (("table", ((A0, ("table", ((False, 5), (True, ("fault",))))),)), "table 1 thing a 0 table 2 no 5 yes fault"),
    (("maker", 0, 2), "maker 0 2"),
    (("maker", 3, 1), "maker 3 1"),
    (("made", 0, (A0,)), "made 0 1 thing a 0"),
    (("made", 1, (("made", 0, (True, False)), ("list", (1, 2)))), "made 1 2 made 0 2 yes no list 2 1 2"),
    (("pair", ("made", 0, (7,)), ("made", 1, (8,))), "pair made 0 1 7 made 1 1 8"),
)
WORDS = ("num", "open", "a", "fun", "name", "x", "list", "0", "1", "2", "yes", "no", "fault", "table", "")


def spoilt(text):
    """Texts that have another form than the text, whatever it is."""
    yield from (text + " ", " " + text, text + "\n", "\n" + text, text + "\t")
    yield from (text + " num", text + " 0", text + " name x")
    yield from (text.replace(" ", "  ", 1) if " " in text else text + "  ", text.replace(" ", "\n", 1) + "\n")
    yield from (text.upper(), text.replace(" ", "\t", 1) + " ", text + "!", text.capitalize() + "-", "(" + text + ")")


def changed(text):
    """Texts with a word left out, twice, another one, two exchanged, one put in; some are still right."""
    words = text.split(" ")
    for at, word in enumerate(words):
        yield " ".join(words[:at] + words[at + 1:])
        yield " ".join(words[:at] + [word] + words[at:])
        for other in range(at):
            swapped = list(words)
            swapped[at], swapped[other] = swapped[other], swapped[at]
            yield " ".join(swapped)
        for new in WORDS:
            yield " ".join(words[:at] + [new] + words[at + 1:])
            yield " ".join(words[:at] + [new] + words[at:])
        for sign in ("A", "1", "-", "\n"):
            yield " ".join(words[:at] + [word + sign] + words[at + 1:])
        for front in ("0", "+", "-", "_"):
            yield " ".join(words[:at] + [front + word] + words[at + 1:])


class Texts:
    """What holds of kinds, terms and worths alike."""

    def refused(self, *texts):
        for text in texts:
            with self.assertRaises(NoText, msg=repr(text)):
                self.read(text)
            self.assertEqual(self.read(self.samples[0][1]), self.samples[0][0])

    def test_written_and_read_again(self):
        for thing, text in self.samples:
            self.assertEqual(self.show(thing), text)
            self.assertEqual(repr(self.read(text)), repr(thing))

    def test_spoilt(self):
        for thing, text in self.samples:
            for other in spoilt(text):
                if other != text:
                    self.refused(other)

    def test_changed(self):
        refusals = 0
        for thing, text in self.samples:
            for other in changed(text):
                try:
                    told = self.read(other)
                except NoText:
                    refusals += 1
                else:
                    self.assertTrue(self.fits(told), other)
                    self.assertEqual(self.show(told), other)
        self.assertGreater(refusals, 500)

    def test_begun_or_gone_on(self):
        for thing, text in self.samples:
            words = text.split(" ")
            for at in range(len(words)):
                self.refused(" ".join(words[:at]))
            self.refused(text + " " + text)

    def test_no_text(self):
        self.refused(None, 0, 1, -1, True, False, [], (), {}, ["num"], ("num",), {"num": "num"}, "", " ", "\n", "  ",
                     "Num", "~", "0 0", "yes no", "1 num")
        for thing in WRONG:
            if thing != "num" and thing != "open a":
                self.refused(thing)

    def test_unlike_things_have_unlike_texts(self):
        texts = [self.show(thing) for thing in self.enough()]
        self.assertGreater(len(texts), 200)
        self.assertEqual(len(texts), len(set(texts)))
        for thing, text in zip(self.enough(), texts):
            self.assertEqual(repr(self.read(text)), repr(thing))

    def test_thirty_deep_and_far_more(self):
        thing, text = nested(self.samples[0][0], self.nest, 29), f"{self.nest} " * 29 + self.samples[0][1]
        self.assertEqual(self.show(thing), text)
        self.assertEqual(self.read(text), thing)
        self.refused(f"{self.nest} " * 29, f"{self.nest} " * 29 + "Num", (f"{self.nest} " * 390).strip())

    def test_nothing_is_changed(self):
        unchanged = Unchanged(self)
        for thing, text in self.samples:
            unchanged.ask(self.show, thing)
            unchanged.ask(self.read, text)
        for thing in ([], ["num"], {"a": ["b"]}):
            with self.assertRaises(NoText):
                self.read(thing)
            self.assertIn(thing, ([], ["num"], {"a": ["b"]}))


class KindTexts(Texts, unittest.TestCase):
    samples = KINDS
    nest = "list"
    show = staticmethod(show_kind)
    read = staticmethod(read_kind)
    fits = staticmethod(is_kind)

    def enough(self):
        small = [A, B, NUM, TRUTH, ("open", "num"), ("open", "fun")]
        some = small + [many(one) for one in small] + [pair(one, other) for one in small for other in small]
        return some + [fun(one, other) for one in some[:16] for other in some[:16]] + [either(A, kind) for kind in some]

    def test_wrong_kinds(self):
        self.refused("open", "open A", "open abcdefghi", "open a b", "nums", "pair num", "pair num num num", "list",
                     "fun num", "list num num", "open 1", "open a1", "thing a 0", "name x", "fun x open a name x",
                     "0", "yes",
                     "list fun num num", "pair fun num num num", "pair num fun num num", "either num fun num num",
                     "fun fun fun num num num num", "fun num fun fun num fun num num num num",
                     "fun list fun num num num", "fun num list fun num num", "table 0", "none num")


class TermTexts(Texts, unittest.TestCase):
    samples = TERMS
    nest = "first"
    show = staticmethod(show_term)
    read = staticmethod(read_term)
    fits = staticmethod(is_term)

    def enough(self):
        small = [term for term, text in TERMS]
        double = [(word, one, other) for word in ("call", "plus", "pair") for one in small for other in small[:8]]
        return small + double + [("left", one, NUM) for one in double] + [("right", NUM, one) for one in double]

    def test_wrong_terms(self):
        self.refused("name", "name X", "name abcdefghi", "name x y", "fun x open a", "fun open a name x",
                     "fun X num num 3", "num", "num 03", "num 00", "num +1", "num -1", "num yes", "num x",
                     "num 1_0", "num 1.0", "num 0x1", "num left 1", "num num 1", "truth left 1", "truth truth yes",
                     "rounds left 1 num 3 x num 3", "fun x left 1 name x", "none left 1",
                     "truth", "truth 1", "truth True", "truth true", "thing a 0", "yes", "3", "open a", "list num",
                     "fold name s num 3 x x name y", "built num o c c name n", "rounds 0 num 3 x num 3",
                     "rounds 31 num 3 x num 3", "rounds 01 num 3 x num 3", "rounds -1 num 3 x num 3",
                     "told f", "told f 1", "told f 1 a", "told f 1 num a", "told f 2 a num", "told f 0 a num",
                     "told f 2 b num a num", "told f 2 a num a num", "told f 01 a num", "told f 1 a fun num num",
                     "told f -1", "told f +0", "told f 1 A num", "told f 99999999999999999999999999 a num",
                     "none fun num num", "fault fun num num", "left num 3 fun num num", "right fun num num num 3",
                     "built fun num num o c n name n", "fun x fun fun num num num num 3")

    def test_deep_right_ones(self):
        text = "if truth yes " * 15 + "num 1" + " num 2" * 15
        self.assertEqual(show_term(read_term(text)), text)


class WorthTexts(Texts, unittest.TestCase):
    samples = WORTHS
    nest = "left"
    show = staticmethod(show_worth)
    read = staticmethod(read_worth)

    def fits(self, told):
        return isinstance(told, (int, tuple))

    def test_no_text(self):
        self.refused(None, [], (), {}, 0, 1, True, False, ["num"], ("list", ()), "", " ", "\n", "  ", "num", "~",
                     "0 0", "yes no", "1 num", "Yes", "YES", "true")
        for thing in WRONG:
            self.refused(thing)

    def enough(self):
        small = [worth for worth, text in WORTHS if not isinstance(worth, tuple) or worth[0] not in ("table", "maker")]
        some = small + [("pair", one, other) for one in small for other in small[:6]]
        some += [("list", items) for items in zip(small, small[1:])] + [("made", 2, (one,)) for one in small]
        return some + [("table", ((one, other),)) for one in small[:5] for other in small + [("fault",)]]

    def test_wrong_worths(self):
        self.refused("00", "01", "+1", "-1", "1_0", "1.0", "a", "yes yes", "fault", "open a", "name x", "truth yes",
                     "num 3", "thing", "thing a", "thing A 0", "thing a a", "thing a 00", "thing a 0 0", "thing a -1",
                     "thing a yes", "thing abcdefghi 0", "pair 1", "pair 1 2 3", "left", "left 1 2", "right",
                     "thing a pair 1 2", "thing a left 1", "maker 0 left 1", "maker left 1 1", "made left 1 1 1",
                     "middle 1", "list", "list 1", "list 2 1", "list 1 1 2", "list 00", "list -1", "list 1 fault",
                     "pair fault 1", "left fault",
                     "table", "table 1", "table 1 1", "table 1 1 1 1", "table 1 fault 1", "table 1 thing a 0",
                     "table 2 no fault", "table 1 no fault yes fault", "table 0 0", "table yes", "made", "made 0",
                     "made 0 1", "made 0 1 fault", "made 0 2 1", "made a 1 1", "made 0 1 1 1", "maker", "maker 0",
                     "maker 0 a", "maker 0 1 1", "maker 00 1", "maker 0 01", "maker yes 1",
                     "list 99999999999999999999999 1 1", "table 9999999999999999999999 1 1",
                     "made 0 99999999999999999999 1", "list 1000 list 1000 list 1000")

    def test_by_its_form_alone(self):
        for worth in (("list", (1, True, A0)), ("table", ((True, 1), (True, True), (A0, ("fault",)))),
                      ("thing", "q", 10 ** 9)):
            self.assertEqual(repr(read_worth(show_worth(worth))), repr(worth))


class Refusal(unittest.TestCase):
    def test_it_is_a_kind_error_with_a_text(self):
        for read in (read_kind, read_term, read_worth):
            with self.assertRaises(KindError) as caught:
                read("Num")
            self.assertIs(type(caught.exception), NoText)


if __name__ == "__main__":
    unittest.main()
