import unittest

from kindalone.straight import is_straight
from tests.randomleads import LeadTerms
from tests.samples import NUM, TRUTH, Unchanged, binding, call, fun, many, name, num, replaced

C, N, X, Y, Z = name("c"), name("n"), name("x"), name("y"), name("z")
YES = ("truth", True)
NIL = ("none", NUM)


def put(item, rest):
    return call(C, item, rest)


def bound_names(term):
    """The names that are bound in a term, by which words."""
    places = {"fun": ((1,), (3,)), "case": ((2, 4), (1, 3, 5)), "fold": ((3, 4), (1, 2, 5)), "built": ((3, 4), (5,)),
              "rounds": ((3,), (2, 4)), "if": ((), (1, 2, 3)), "left": ((), (1,)), "right": ((), (2,)),
              "first": ((), (1,)), "second": ((), (1,))}
    names, inner = places.get(term[0], ((), (1, 2) if term[0] in ("call", "plus", "less", "pair", "more", "alike") else ()))
    found = [term[at] for at in names]
    for at in inner:
        found += bound_names(term[at])
    return found


def has_name(thing, x):
    return isinstance(thing, tuple) and (thing == name(x) or any(has_name(part, x) for part in thing))


def slow_straight(x, y, term):
    """The sentence of point 20, once more."""
    if x == y or x in bound_names(term) or y in bound_names(term):
        return False

    def free(part, *names):
        return not any(has_name(part, one) for one in names)

    if term == name(y):
        return True
    if term[0] == "call" and term[1][0] == "call" and term[1][1] == name(x):
        return free(term[1][2], x, y) and slow_straight(x, y, term[2])
    if term[0] == "if":
        return free(term[1], x, y) and slow_straight(x, y, term[2]) and slow_straight(x, y, term[3])
    if term[0] == "case":
        return free(term[1], x, y) and slow_straight(x, y, term[3]) and slow_straight(x, y, term[5])
    if term[0] == "fold":
        return (free(term[1], x, y) and slow_straight(x, y, term[2]) and free(term[5], y)
                and slow_straight(x, term[4], term[5]))
    return False


class Straight(unittest.TestCase):
    def check(self, held, term, x="c", y="n"):
        self.assertIs(Unchanged(self).ask(is_straight, x, y, term), held, term)
        self.assertIs(slow_straight(x, y, term), held, term)

    def test_the_end(self):
        self.check(True, N)
        self.check(False, C)
        self.check(False, X)
        self.check(False, num(1))
        self.check(False, ("none", NUM))
        self.check(False, ("fault", ("open", "o")))

    def test_unlike_names(self):
        self.check(False, N, "n", "n")
        self.check(False, put(num(1), C), "c", "c")

    def test_items_put_on(self):
        self.check(True, put(num(1), N))
        self.check(True, put(num(1), put(num(2), put(num(3), N))))
        self.check(True, put(X, N))
        self.check(True, put(call(binding(X, x=NUM), num(1)), N))
        # Not on the end, or not by c.
        self.check(False, put(num(1), X))
        self.check(False, put(num(1), num(2)))
        self.check(False, call(X, num(1), N))
        self.check(False, call(N, num(1), N))
        self.check(False, call(N, num(1), C))
        self.check(False, call(C, N))
        self.check(False, call(C, num(1)))
        self.check(False, call(call(binding(C, z=NUM), num(1)), num(1), N))
        self.check(False, call(C, num(1), N, N))
        self.check(False, ("more", num(1), N))

    def test_x_or_y_in_an_item(self):
        for item in (C, N, ("plus", num(1), N), ("first", ("pair", N, num(1))), call(X, C), binding(N, x=NUM)):
            self.check(False, put(item, N))
            self.check(False, put(num(1), put(item, N)))

    def test_ifs(self):
        self.check(True, ("if", YES, N, N))
        self.check(True, ("if", X, put(num(1), N), N))
        self.check(True, put(num(1), ("if", X, ("if", YES, N, N), put(num(2), N))))
        self.check(False, ("if", YES, X, N))
        self.check(False, ("if", YES, N, X))
        self.check(False, ("if", N, N, N))
        self.check(False, ("if", ("less", num(1), C), N, N))

    def test_cases(self):
        self.check(True, ("case", Z, "x", N, "y", N))
        self.check(True, ("case", Z, "x", put(X, N), "y", ("if", Y, N, put(num(1), N))))
        self.check(False, ("case", Z, "x", X, "y", N))
        self.check(False, ("case", Z, "x", N, "y", Y))
        self.check(False, ("case", N, "x", N, "y", N))
        self.check(False, ("case", ("left", C, NUM), "x", N, "y", N))
        for at in (2, 4):
            for bound in ("c", "n"):
                self.check(False, replaced(("case", Z, "x", N, "y", N), at, bound))
        self.check(True, ("case", Z, "x", N, "x", N))

    def test_folds(self):
        self.check(True, ("fold", Z, N, "x", "y", Y))
        self.check(True, ("fold", Z, N, "x", "y", put(X, Y)))
        self.check(True, ("fold", Z, put(num(1), N), "x", "y", put(X, ("if", X, put(num(2), Y), Y))))
        self.check(True, ("fold", Z, ("fold", Z, N, "x", "y", put(X, Y)), "x", "y", put(X, Y)))
        self.check(True, ("fold", Z, N, "x", "y", ("fold", X, Y, "u", "v", put(name("u"), name("v")))))
        # A turn that ends elsewhere.
        self.check(False, ("fold", Z, N, "x", "y", X))
        self.check(False, ("fold", Z, N, "x", "y", N))
        self.check(False, ("fold", Z, N, "x", "y", put(X, N)))
        self.check(False, ("fold", Z, N, "x", "y", ("fold", X, Y, "u", "v", put(name("u"), Y))))
        # What it begins with is not straight.
        self.check(False, ("fold", Z, X, "x", "y", Y))
        self.check(False, ("fold", Z, num(0), "x", "y", Y))

    def test_x_and_y_within_a_fold(self):
        self.check(False, ("fold", N, N, "x", "y", Y))
        self.check(False, ("fold", ("more", C, NIL), N, "x", "y", Y))
        # y in a turn, wherever.
        for item in (N, ("plus", N, num(1)), binding(N, z=NUM)):
            self.check(False, ("fold", Z, N, "x", "y", put(item, Y)))
            self.check(False, ("fold", Z, N, "x", "y", ("if", item, Y, Y)))
        # The fold's own second name, and x, in an item.
        self.check(False, ("fold", Z, N, "x", "y", put(Y, Y)))
        self.check(False, ("fold", Z, N, "x", "y", put(C, Y)))
        self.check(False, ("fold", Z, N, "x", "y", ("if", Y, Y, Y)))
        self.check(True, ("fold", Z, N, "x", "y", put(name("z"), Y)))

    def test_a_fold_whose_own_names_are_x_or_y(self):
        for first, second in (("c", "y"), ("n", "y"), ("x", "c"), ("x", "n"), ("c", "n"), ("n", "c")):
            self.check(False, ("fold", Z, N, first, second, name(second)))
            self.check(False, put(("fold", Z, num(0), first, second, num(1)), N))
        # Its second name bound again in its turn.
        self.check(False, ("fold", Z, N, "x", "y", put(binding(num(1), y=NUM), Y)))
        self.check(False, ("fold", Z, N, "x", "y", ("fold", X, Y, "y", "v", name("v"))))
        self.check(False, ("fold", Z, N, "x", "y", ("fold", X, Y, "u", "y", Y)))
        self.check(True, ("fold", Z, N, "x", "y", ("fold", X, Y, "x", "v", name("v"))))

    def test_bound_anywhere_within(self):
        for bound in ("c", "n"):
            for item in (("fun", bound, NUM, num(1)), ("case", Z, bound, num(1), "y", num(1)),
                         ("case", Z, "x", num(1), bound, num(1)), ("fold", Z, num(1), bound, "y", num(1)),
                         ("fold", Z, num(1), "x", bound, num(1)), ("built", NUM, "o", bound, "y", Y),
                         ("built", NUM, "o", "x", bound, X), ("rounds", 1, num(1), bound, num(1))):
                self.check(False, put(item, N))
                self.check(False, put(("first", ("pair", num(1), item)), N))
                self.check(False, ("if", item, N, N))
                self.check(False, ("case", item, "x", N, "y", N))
                self.check(False, ("fold", item, N, "x", "y", Y))
                self.check(False, ("fold", Z, N, "x", "y", put(item, Y)))
            # Not a term's name, but an open one, a function's, a fill's.
            self.check(True, put(("built", NUM, bound, "x", "y", Y), N))
            self.check(True, put(("none", ("open", bound)), N))
            self.check(True, put(("told", bound, ((bound, NUM),)), N))

    def test_other_words(self):
        for term in (binding(N, x=NUM), ("pair", N, N), ("first", N), ("second", N), ("left", N, NUM), ("right", NUM, N),
                     ("more", N, N), ("rounds", 2, N, "x", N), ("built", NUM, "o", "x", "y", N), ("alike", N, N),
                     ("plus", N, N), ("less", N, N), ("told", "n", ()), ("told", "c", ()), YES):
            self.check(False, term)
            self.check(False, put(num(1), term))
            self.check(False, ("if", YES, N, term))

    def test_exchanged(self):
        for term in (put(num(1), N), ("if", X, put(num(1), N), N), ("fold", Z, N, "x", "y", put(X, Y))):
            self.check(True, term)
            self.check(False, term, "n", "c")
        self.check(True, call(N, num(1), C), "n", "c")

    def test_by_other_means(self):
        seen = {True: 0, False: 0}
        for seed in range(400):
            terms = LeadTerms(seed)
            around = {"x": NUM, "z": many(NUM), "v": fun(NUM, TRUTH)}
            term = terms.straight("c", "n", NUM, around, 4)
            for x, y in (("c", "n"), ("c", "g"), ("n", "c"), ("c", "x")):
                held = slow_straight(x, y, term)
                seen[held] += 1
                self.check(held, term, x, y)
            self.check(slow_straight("c", "n", put(term, N)), put(term, N))
        self.assertGreater(min(seen.values()), 100)


if __name__ == "__main__":
    unittest.main()
