import unittest

from kindalone.checking import kind_of
from kindalone.errors import KindError, TooMuch
from kindalone.running import run
from tests.randomterms import Terms
from tests.samples import (A, B, NUM, TOO_MUCH, TRUTH, Unchanged, binding, call, either, fun, items, many, name, num,
                           pair, plus, table, thing)
from tests.slow import slow_run, slow_worths

FAULT = ("fault",)
A0, A1, A2 = thing("a", 0), thing("a", 1), thing("a", 2)
B0 = thing("b", 0)
X, Y, Z, F, G = name("x"), name("y"), name("z"), name("f"), name("g")
NIL = ("none", NUM)
YES = ("truth", True)
NO = ("truth", False)
# One step and a worth; no step and a fault.
ONE_STEP = ("more", ("num", 7), NIL)
FAILS = ("fault", NUM)


def worth(told, steps):
    return ("worth", told, steps)


def fault(steps):
    return ("fault", steps)


def count_to(turns, most=30):
    """Rounds that take so many turns, the last one to a right."""
    going = ("if", ("less", X, num(turns - 1)), ("left", ("plus", X, num(1)), NUM), ("right", NUM, X))
    return ("rounds", most, num(0), "x", going)


class Runs(unittest.TestCase):
    def check(self, outcome, term, *args, looked=()):
        kind_of(term, looked)
        self.assertEqual(repr(Unchanged(self).ask(run, term, args)), repr(outcome))

    def too_much(self, term, *args):
        kind_of(term, ())
        with self.assertRaises(TooMuch):
            run(term, args)


class Words(Runs):
    def test_numbers(self):
        self.check(worth(5, 0), num(5))
        self.check(worth(0, 0), num(0))
        self.check(worth(7, 0), ("plus", num(3), num(4)))
        self.check(worth(True, 0), ("less", num(3), num(4)))
        self.check(worth(False, 0), ("less", num(4), num(4)))
        self.check(worth(False, 0), ("less", num(5), num(4)))

    def test_truths_and_ifs(self):
        self.check(worth(True, 0), YES)
        self.check(worth(False, 0), NO)
        self.check(worth(1, 0), ("if", YES, num(1), num(2)))
        self.check(worth(2, 0), ("if", NO, num(1), num(2)))

    def test_an_if_runs_one_of_both_alone(self):
        self.check(worth(1, 0), ("if", YES, num(1), FAILS))
        self.check(worth(1, 0), ("if", NO, FAILS, num(1)))
        self.check(fault(0), ("if", NO, num(1), FAILS))
        self.check(worth(items(), 0), ("if", YES, NIL, ONE_STEP))
        self.check(worth(items(7), 1), ("if", NO, NIL, ONE_STEP))
        self.check(fault(0), ("if", ("fault", TRUTH), num(1), num(1)))

    def test_pairs(self):
        self.check(worth(("pair", 1, True), 0), ("pair", num(1), YES))
        self.check(worth(1, 0), ("first", ("pair", num(1), YES)))
        self.check(worth(True, 0), ("second", ("pair", num(1), YES)))
        self.check(worth(("pair", ("pair", 1, 2), 3), 0), ("pair", ("pair", num(1), num(2)), num(3)))

    def test_eithers(self):
        self.check(worth(("left", 1), 0), ("left", num(1), TRUTH))
        self.check(worth(("right", True), 0), ("right", NUM, YES))
        asked = ("case", Z, "x", ("plus", X, num(10)), "y", ("if", Y, num(1), num(2)))
        told = binding(asked, z=either(NUM, TRUTH))
        self.check(worth(15, 1), told, ("left", 5))
        self.check(worth(1, 1), told, ("right", True))
        self.check(worth(2, 1), told, ("right", False))

    def test_a_case_runs_one_of_both_alone(self):
        told = binding(("case", Z, "x", num(1), "y", FAILS), z=either(NUM, TRUTH))
        self.check(worth(1, 1), told, ("left", 5))
        self.check(fault(1), told, ("right", True))
        told = binding(("case", Z, "x", ONE_STEP, "y", NIL), z=either(NUM, TRUTH))
        self.check(worth(items(7), 2), told, ("left", 5))
        self.check(worth(items(), 1), told, ("right", True))

    def test_lists(self):
        self.check(worth(items(), 0), NIL)
        self.check(worth(items(7), 1), ONE_STEP)
        self.check(worth(items(1, 2, 3), 3), ("more", num(1), ("more", num(2), ("more", num(3), NIL))))

    def test_names_and_funs(self):
        self.check(worth(A1, 1), binding(X, x=A), A1)
        self.check(worth(A0, 2), binding(X, x=A, y=B), A0, B0)
        self.check(worth(B0, 2), binding(Y, x=A, y=B), A0, B0)
        self.check(worth(5, 0), num(5))

    def test_calls(self):
        self.check(worth(4, 1), call(binding(("plus", X, num(1)), x=NUM), num(3)))
        self.check(worth(7, 2), call(binding(("plus", X, Y), x=NUM, y=NUM), num(3), num(4)))
        self.check(worth(2, 2), call(binding(("if", X, binding(Y, y=NUM), binding(num(0), y=NUM)), x=TRUTH), YES, num(2)))

    def test_a_term_that_leads_to_a_function(self):
        chosen = ("if", YES, binding(X, x=NUM), binding(num(0), x=NUM))
        self.check(worth(9, 1), chosen, 9)
        # Its own run comes ahead of what is handed in.
        self.check(worth(9, 2), call(binding(binding(X, x=NUM), y=NUM), num(1)), 9)
        self.check(fault(0), call(binding(binding(X, x=NUM), y=NUM), FAILS), 9)
        self.check(fault(1), binding(call(binding(binding(X, x=NUM), y=NUM), FAILS), z=NUM), 9, 9)

    def test_fault(self):
        self.check(fault(0), FAILS)
        self.check(fault(1), binding(FAILS, x=NUM), 5)
        self.check(fault(2), call(binding(FAILS, x=many(NUM)), ONE_STEP))

    def test_alike(self):
        told = binding(("alike", X, Y), x=A, y=A)
        for one in (A0, A1, A2):
            for other in (A0, A1, A2):
                self.check(worth(one == other, 2), told, one, other, looked=("a",))

    def test_alike_of_made_ones(self):
        made = binding(("alike", call(F, X), call(F, Y)), f=fun(A, A), x=A, y=A)
        self.check(worth(True, 5), made, ("maker", 0, 1), A1, A1, looked=("a",))
        self.check(worth(False, 5), made, ("maker", 0, 1), A1, A0, looked=("a",))
        mixed = binding(("alike", call(F, X), X), f=fun(A, A), x=A)
        self.check(worth(False, 3), mixed, ("maker", 0, 1), A1, looked=("a",))
        self.check(worth(True, 3), mixed, table((A0, A1), (A1, A1)), A1, looked=("a",))


class Binding(Runs):
    def test_a_name_bound_twice(self):
        self.check(worth(B0, 2), ("fun", "x", A, ("fun", "x", B, X)), A0, B0)
        self.check(worth(5, 2), binding(call(binding(X, x=NUM), num(5)), x=A), A0)
        self.check(worth(("pair", 5, 3), 2), binding(("pair", call(binding(X, x=NUM), num(5)), X), x=NUM), 3)
        twice = ("case", X, "x", X, "x", num(0))
        self.check(worth(6, 1), binding(twice, x=either(NUM, TRUTH)), ("left", 6))
        self.check(worth(3, 3), binding(("fold", X, num(3), "z", "x", X), x=many(NUM)), items(9))
        self.check(worth(9, 3), binding(("fold", X, num(3), "x", "y", X), x=many(NUM)), items(9))
        self.check(worth(4, 2), binding(("rounds", 1, ("plus", X, num(1)), "x", ("right", NUM, X)), x=NUM), 3)

    def test_a_function_keeps_the_names_around_it(self):
        inner = call(binding(call(F, num(0)), x=NUM), num(5))
        kept = call(binding(call(binding(inner, f=fun(NUM, NUM)), binding(X, y=NUM)), x=NUM), num(3))
        self.check(worth(3, 4), kept)

    def test_a_name_of_a_turn_is_bound_anew_each_turn(self):
        told = binding(("fold", X, NIL, "x", "y", ("more", ("plus", X, num(1)), Y)), x=many(NUM))
        self.check(worth(items(2, 3, 4), 8), told, items(1, 2, 3))


class Folds(Runs):
    def test_from_the_last_item_to_the_first(self):
        pairs = pair(many(NUM), NUM)
        self.check(worth(items(1, 2, 3), 8), binding(("fold", X, NIL, "x", "y", ("more", X, Y)), x=many(NUM)),
                   items(1, 2, 3))
        # What is told at the end is the first item, if the turns before are forgotten.
        self.check(worth(1, 5), binding(("fold", X, num(0), "x", "y", X), x=many(NUM)), items(1, 2, 3))
        doubled = ("plus", X, ("plus", Y, Y))
        self.check(worth(1 + 2 * (2 + 2 * (3 + 2 * 9)), 5), binding(("fold", X, num(9), "x", "y", doubled), x=many(NUM)),
                   items(1, 2, 3))
        turn = ("pair", ("more", ("plus", X, ("second", Y)), ("first", Y)), ("plus", ("second", Y), num(10)))
        told = binding(("fold", X, ("pair", NIL, num(0)), "x", "y", turn), x=many(NUM))
        self.assertEqual(kind_of(told, ()), fun(many(NUM), pairs))
        self.check(worth(("pair", items(21, 12, 3), 30), 8), told, items(1, 2, 3))

    def test_of_none(self):
        self.check(worth(4, 2), binding(("fold", X, num(4), "x", "y", FAILS), x=many(NUM)), items())
        self.check(worth(4, 1), ("fold", NIL, num(4), "x", "y", FAILS))

    def test_a_fault_in_a_turn(self):
        turn = ("if", ("less", X, num(2)), FAILS, Y)
        told = binding(("fold", X, num(0), "x", "y", turn), x=many(NUM))
        self.check(worth(0, 5), told, items(2, 3, 4))
        # The last item comes first: three turns, two, one.
        self.check(fault(5), told, items(1, 2, 3))
        self.check(fault(4), told, items(3, 1, 3))
        self.check(fault(3), told, items(1, 1, 1))

    def test_what_it_begins_with_is_run_once(self):
        told = binding(("fold", X, ONE_STEP, "x", "y", Y), x=many(NUM))
        self.check(worth(items(7), 6), told, items(1, 2, 3))
        self.check(worth(items(7), 3), told, items())

    def test_a_function_as_the_turn(self):
        told = binding(("fold", Z, Y, "x", "y", call(F, X, Y)), f=fun(NUM, NUM, NUM), z=many(NUM), y=NUM)
        added = binding(("plus", X, Y), x=NUM, y=NUM)
        self.check(worth(16, 12), call(told, added, ("more", num(1), ("more", num(5), NIL)), num(10)))


class Builts(Runs):
    def test_a_list_is_built(self):
        self.check(worth(items(), 1), ("built", NUM, "o", "x", "y", Y))
        self.check(worth(items(3), 4), ("built", NUM, "o", "x", "y", call(X, num(3), Y)))
        self.check(worth(items(1, 2), 7), ("built", NUM, "o", "x", "y", call(X, num(1), call(X, num(2), Y))))

    def test_its_x_is_not_called_and_its_y_forgotten(self):
        self.check(worth(items(), 1), ("built", NUM, "o", "x", "y", ("if", YES, Y, call(X, num(3), Y))))
        self.check(worth(items(), 3), ("built", NUM, "o", "x", "y", call(binding(Y, z=many(NUM)), ONE_STEP)))

    def test_its_x_is_handed_on(self):
        end = ("open", "o")
        putting = fun(NUM, end, end)
        twice = binding(call(F, num(1), call(F, num(2), Z)), f=putting, z=end)
        self.check(worth(items(1, 2), 9), ("built", NUM, "o", "x", "y", call(twice, X, Y)))
        one = binding(call(F, Z), f=fun(end, end), z=end)
        self.check(worth(items(5), 6), ("built", NUM, "o", "x", "y", call(one, call(X, num(5)), Y)))
        # x with its first argument alone: no item is put on.
        unused = call(binding(Z, f=fun(end, end), z=end), call(X, num(5)), Y)
        self.check(worth(items(), 4), ("built", NUM, "o", "x", "y", unused))

    def test_a_fold_in_it(self):
        told = ("built", NUM, "o", "c", "n", ("fold", Z, name("n"), "x", "y", call(name("c"), ("plus", X, num(1)), Y)))
        self.check(worth(items(2, 3), 1 + 1 + 1 + 2 * 4), binding(told, z=many(NUM)), items(1, 2))

    def test_one_in_another(self):
        inner = ("built", NUM, "p", "c", "n", call(name("c"), num(4), name("n")))
        told = ("built", many(NUM), "o", "x", "y", call(X, inner, call(X, inner, Y)))
        self.check(worth(items(items(4), items(4)), 1 + 2 * 3 + 2 * 4), told)

    def test_order(self):
        # Each call's function and argument are run ahead of it: the inner list is put on first.
        told = ("built", NUM, "o", "x", "y", call(X, FAILS, call(X, num(2), Y)))
        self.check(fault(1), told)
        told = ("built", NUM, "o", "x", "y", call(X, num(2), call(X, FAILS, Y)))
        self.check(fault(2), told)


class Rounds(Runs):
    def test_turns(self):
        self.check(worth(7, 1), ("rounds", 1, num(7), "x", ("right", NUM, X)))
        self.check(worth(7, 1), ("rounds", 30, num(7), "x", ("right", NUM, X)))
        self.check(worth(0, 1), count_to(1))
        for turns in range(1, 31):
            self.check(worth(turns - 1, turns), count_to(turns))
            self.check(worth(turns - 1, turns), count_to(turns, turns))

    def test_without_a_right(self):
        self.check(fault(1), ("rounds", 1, num(7), "x", ("left", X, NUM)))
        self.check(fault(30), ("rounds", 30, num(7), "x", ("left", X, NUM)))
        for turns in range(2, 31):
            self.check(fault(turns - 1), count_to(turns, turns - 1))

    def test_a_fault_within(self):
        self.check(fault(0), ("rounds", 5, FAILS, "x", ("right", NUM, X)))
        self.check(fault(1), ("rounds", 5, num(1), "x", ("fault", either(NUM, NUM))))
        self.check(fault(3), ("rounds", 5, num(0), "x", ("if", ("less", X, num(2)), ("left", ("plus", X, num(1)), NUM),
                                                         ("fault", either(NUM, NUM)))))

    def test_another_kind_at_the_end(self):
        self.check(worth(("pair", 3, True), 1), ("rounds", 2, num(3), "x", ("right", NUM, ("pair", X, YES))))


class Handed(Runs):
    def test_a_table(self):
        told = binding(call(F, X), f=fun(A, NUM), x=A)
        rows = table((A0, 4), (A1, FAULT))
        self.check(worth(4, 3), told, rows, A0)
        self.check(fault(3), told, rows, A1)

    def test_a_fault_of_a_table_ends_the_whole_run(self):
        told = binding(("pair", ONE_STEP, ("pair", call(F, X), ONE_STEP)), f=fun(A, NUM), x=A)
        rows = table((A0, 4), (A1, FAULT))
        self.check(worth(("pair", items(7), ("pair", 4, items(7))), 5), told, rows, A0)
        self.check(fault(4), told, rows, A1)
        # What it tells is not asked for here.
        self.check(worth(1, 3), binding(num(1), f=fun(A, NUM), x=A, y=A), rows, A1, A1)

    def test_a_table_of_more_arguments(self):
        rows = table((A0, table((False, 1), (True, 2))), (A1, table((False, 3), (True, FAULT))))
        told = binding(call(F, X, Y), f=fun(A, TRUTH, NUM), x=A, y=TRUTH)
        self.check(worth(1, 5), told, rows, A0, False)
        self.check(worth(2, 5), told, rows, A0, True)
        self.check(worth(3, 5), told, rows, A1, False)
        self.check(fault(5), told, rows, A1, True)
        # With one argument it is a function still, and no fault.
        half = binding(call(binding(num(6), g=fun(TRUTH, NUM)), call(F, X)), f=fun(A, TRUTH, NUM), x=A)
        self.check(worth(6, 4), half, rows, A1)

    def test_tables_over_pairs_and_eithers(self):
        rows = table((("pair", A0, False), 1), (("pair", A0, True), 2))
        told = binding(call(F, ("pair", X, YES)), f=fun(pair(A, TRUTH), NUM), x=A)
        self.check(worth(2, 3), told, rows, A0)
        rows = table((("left", A0), 1), (("right", False), 2), (("right", True), FAULT))
        told = binding(call(F, X), f=fun(either(A, TRUTH), NUM), x=either(A, TRUTH))
        self.check(worth(1, 3), told, rows, ("left", A0))
        self.check(worth(2, 3), told, rows, ("right", False))
        self.check(fault(3), told, rows, ("right", True))

    def test_a_maker(self):
        self.check(worth(("made", 0, (A1,)), 3), binding(call(F, X), f=fun(A, B), x=A), ("maker", 0, 1), A1)
        two = binding(call(F, X, Y), x=A, f=fun(A, TRUTH, B), y=TRUTH)
        self.check(worth(("made", 1, (A1, True)), 5), two, A1, ("maker", 1, 2), True)
        again = binding(call(F, call(F, X)), f=fun(A, A), x=A)
        self.check(worth(("made", 0, (("made", 0, (A1,)),)), 4), again, ("maker", 0, 1), A1)
        in_list = binding(("more", call(F, X), ("none", B)), f=fun(A, B), x=A)
        self.check(worth(items(("made", 0, (A1,))), 4), in_list, ("maker", 0, 1), A1)
        # A maker with one of its two arguments is used twice.
        half = binding(("pair", call(G, X), call(G, Y)), g=fun(A, B), x=A, y=A)
        both = binding(call(half, call(F, X), X, Y), f=fun(A, A, B), x=A, y=A)
        self.check(worth(("pair", ("made", 0, (A0, A0)), ("made", 0, (A0, A1))), 9), both, ("maker", 0, 2), A0, A1)

    def test_two_makers(self):
        told = binding(("pair", call(F, X), call(G, X)), f=fun(A, B), g=fun(A, B), x=A)
        self.check(worth(("pair", ("made", 0, (A0,)), ("made", 1, (A0,))), 5), told, ("maker", 0, 1), ("maker", 1, 1), A0)

    def test_a_made_one_that_a_table_has_no_row_for(self):
        told = binding(call(G, call(F, X)), f=fun(A, A), g=fun(A, TRUTH), x=A)
        self.check(fault(5), told, ("maker", 0, 1), table((A0, True)), A0)

    def test_a_function_that_is_handed_on(self):
        inner = binding(call(G, call(G, X)), g=fun(A, A), x=A)
        told = binding(call(inner, F, X), f=fun(A, A), x=A)
        rows = table((A0, A1), (A1, A2), (A2, FAULT))
        self.check(worth(A2, 6), told, rows, A0)
        self.check(fault(6), told, rows, A1)
        self.check(worth(("made", 0, (("made", 0, (A0,)),)), 6), told, ("maker", 0, 1), A0)
        own = call(inner_numbers(), binding(("plus", X, num(1)), x=NUM), num(5))
        self.check(worth(7, 4), own)

    def test_lists_of_things(self):
        told = binding(("fold", X, ("none", A), "x", "y", ("more", X, Y)), x=many(A))
        self.check(worth(items(A0, A1, A0), 8), told, items(A0, A1, A0))


def inner_numbers():
    return binding(call(G, call(G, X)), g=fun(NUM, NUM), x=NUM)


class Order(Runs):
    def test_the_first_of_two_terms_is_run_first(self):
        listed = ("fault", many(NUM))
        for word, one, other in (("pair", ONE_STEP, ONE_STEP), ("more", ONE_STEP, ("more", ONE_STEP, ("none", many(NUM)))),
                                 ("plus", call(binding(X, x=NUM), num(1)), call(binding(X, x=NUM), num(1))),
                                 ("less", call(binding(X, x=NUM), num(1)), call(binding(X, x=NUM), num(1)))):
            failing = listed if word in ("pair", "more") else FAILS
            last = ("fault", many(many(NUM))) if word == "more" else failing
            self.check(fault(0), (word, failing, other))
            self.check(fault(1), (word, one, last))

    def test_a_call_runs_the_function_first_and_then_the_argument(self):
        function = ("if", ("fault", TRUTH), binding(X, x=many(NUM)), binding(X, x=many(NUM)))
        self.check(fault(0), call(function, ONE_STEP))
        stepping = call(binding(binding(X, x=many(NUM)), y=NUM), num(1))
        self.check(fault(1), call(stepping, ("fault", many(NUM))))
        # The argument is run, whether it is used or not, and ahead of the step.
        self.check(fault(0), call(binding(num(1), x=NUM), FAILS))
        self.check(worth(1, 2), call(binding(num(1), x=many(NUM)), ONE_STEP))

    def test_a_fold_runs_the_list_then_what_it_begins_with(self):
        self.check(fault(0), ("fold", ("fault", many(NUM)), ONE_STEP, "x", "y", Y))
        self.check(fault(1), ("fold", ONE_STEP, ("fault", many(NUM)), "x", "y", Y))
        self.check(fault(3), ("fold", ONE_STEP, NIL, "x", "y", ("fault", many(NUM))))

    def test_alike(self):
        put = binding(X, x=A)
        told = binding(("alike", call(put, X), ("fault", A)), x=A)
        self.check(fault(2), told, A0, looked=("a",))
        told = binding(("alike", ("fault", A), call(put, X)), x=A)
        self.check(fault(1), told, A0, looked=("a",))

    def test_arguments_are_handed_in_one_behind_the_other(self):
        self.check(fault(1), binding(call(binding(binding(Y, y=NUM), x=NUM), FAILS), z=NUM), 1, 2)

    def test_which_comes_first(self):
        great = ("plus", Z, num(1))
        self.check(fault(1), binding(("pair", FAILS, great), z=NUM), 10 ** 30)
        self.too_much(binding(("pair", great, FAILS), z=NUM), 10 ** 30)
        self.check(fault(1), binding(("plus", FAILS, great), z=NUM), 10 ** 30)
        self.too_much(binding(("plus", great, FAILS), z=NUM), 10 ** 30)
        long = ("fold", X, num(0), "x", "y", Y)
        self.check(fault(1), binding(("pair", FAILS, long), x=many(NUM)), items(*range(999)))
        self.too_much(binding(("pair", long, FAILS), x=many(NUM)), items(*range(999)))
        self.check(fault(1000), binding(("pair", long, FAILS), x=many(NUM)), items(*range(998)))
        # Neither is there in what is not run.
        self.check(worth(1, 1), binding(("if", YES, num(1), great), z=NUM), 10 ** 30)


class Limits(Runs):
    def test_just_a_thousand_steps(self):
        once = ("fold", Z, num(0), "x", "y", ("plus", Y, num(1)))
        twice = ("fold", Z, num(0), "u", "v", ("plus", name("v"), once))
        terms = [twice] * 5 + [once] * 11
        counts = [169] * 5 + [13] * 11
        self.assertEqual(1 + sum(counts) + 11, 1000)
        twelve = items(*range(12))
        self.check(worth(5 * 144 + 11 * 12 + 10, 1000), binding(plus(*terms, count_to(11)), z=many(NUM)), twelve)
        self.too_much(binding(plus(*terms, count_to(12)), z=many(NUM)), twelve)
        self.too_much(binding(plus(*terms, count_to(11), ("fold", NIL, num(0), "x", "y", Y)), z=many(NUM)), twelve)
        self.check(fault(1000), binding(plus(*terms, count_to(11), FAILS), z=many(NUM)), twelve)
        self.check(fault(1000), binding(plus(*terms, count_to(12, 11)), z=many(NUM)), twelve)

    def test_each_step_is_one_of_the_thousand(self):
        """Behind 999 steps one more is taken, behind a thousand none, whatever takes it."""
        fold = ("fold", Z, num(0), "x", "y", Y)
        ways = (call(binding(X, x=NUM), num(0)), ("fold", NIL, num(0), "x", "y", Y),
                ("rounds", 1, num(0), "x", ("right", NUM, X)),
                call(binding(num(0), x=TRUTH), YES))
        for way in ways:
            told = binding(plus(fold, way), z=many(NUM))
            self.check(worth(0, 1000), told, items(*range(997)))
            self.too_much(told, items(*range(998)))
        for way in (("more", num(1), NIL), ("built", NUM, "o", "x", "y", Y)):
            told = binding(("second", ("pair", fold, way)), z=many(NUM))
            self.assertEqual(run(told, (items(*range(997)),))[2], 1000)
            self.too_much(told, items(*range(998)))
        told = binding(("second", ("pair", fold, ("built", NUM, "o", "x", "y", call(X, num(1), Y)))), z=many(NUM))
        self.check(worth(items(1), 1000), told, items(*range(994)))
        self.too_much(told, items(*range(995)))
        told = binding(("second", ("pair", fold, call(F, YES))), z=many(NUM), f=fun(TRUTH, NUM))
        self.check(worth(5, 1000), told, items(*range(996)), table((False, 4), (True, 5)))
        self.too_much(told, items(*range(997)), table((False, 4), (True, 5)))
        told = ("fun", "z", many(NUM), call(binding(binding(X, x=NUM), y=NUM), fold))
        self.check(worth(4, 1000), told, items(*range(996)), 4)
        self.too_much(told, items(*range(997)), 4)

    def test_numbers(self):
        told = binding(("plus", X, Y), x=NUM, y=NUM)
        self.check(worth(10 ** 30, 2), told, 10 ** 30, 0)
        self.check(worth(10 ** 30, 2), told, 10 ** 30 - 1, 1)
        self.check(worth(10 ** 30, 2), told, 5 * 10 ** 29, 5 * 10 ** 29)
        self.too_much(told, 10 ** 30, 1)
        self.too_much(told, 10 ** 30, 10 ** 30)
        self.check(worth(10 ** 30, 1), binding(X, x=NUM), 10 ** 30)
        self.check(worth(10 ** 30, 0), num(10 ** 30))
        self.too_much(num(10 ** 30 + 1))
        # The number is too great when it comes, whatever is done with it.
        self.too_much(binding(("first", ("pair", num(1), ("plus", X, num(1)))), x=NUM), 10 ** 30)
        self.too_much(binding(("less", ("plus", X, num(1)), num(1)), x=NUM), 10 ** 30)

    def test_a_number_that_is_handed_in(self):
        self.too_much(binding(X, x=NUM), 10 ** 30 + 1)
        self.too_much(binding(num(1), x=NUM), 10 ** 30 + 1)
        self.too_much(binding(num(1), x=many(NUM)), items(1, 10 ** 30 + 1))
        # What a table tells comes when it is told.
        great = table((False, 1), (True, 10 ** 30 + 1))
        self.check(worth(1, 2), binding(call(F, NO), f=fun(TRUTH, NUM)), great)
        self.too_much(binding(call(F, YES), f=fun(TRUTH, NUM)), great)
        self.too_much(binding(("less", call(F, YES), num(1)), f=fun(TRUTH, NUM)), great)
        self.check(worth(1, 1), binding(num(1), x=many(NUM)), items(1, 10 ** 30))
        self.check(worth(1, 1), binding(num(1), x=A), thing("a", 10 ** 30 + 1))

    def test_doubling(self):
        doubled = ("fold", X, num(1), "x", "y", ("plus", Y, Y))
        self.check(worth(2 ** 99, 101), binding(doubled, x=many(NUM)), items(*range(99)))
        self.too_much(binding(doubled, x=many(NUM)), items(*range(100)))
        self.too_much(TOO_MUCH)

    def test_parts_of_pairs_and_eithers(self):
        for many_items, held in ((197, True), (198, False)):
            handed = items(*range(many_items))
            told = binding(("pair", X, num(1)), x=many(NUM))
            self.told_or_not(held, worth(("pair", handed, 1), 1), told, handed)
        for many_items, held in ((198, True), (199, False)):
            handed = items(*range(many_items))
            left = binding(("left", X, NUM), x=many(NUM))
            right = binding(("right", NUM, X), x=many(NUM))
            self.told_or_not(held, worth(("left", handed), 1), left, handed)
            self.told_or_not(held, worth(("right", handed), 1), right, handed)

    def told_or_not(self, held, outcome, term, *args):
        if held:
            self.check(outcome, term, *args)
        else:
            self.too_much(term, *args)

    def test_parts_are_counted_as_often_as_they_stand(self):
        told = binding(("pair", ("pair", X, X), num(1)), x=many(NUM))
        handed = items(*range(97))
        self.check(worth(("pair", ("pair", handed, handed), 1), 1), told, handed)
        self.too_much(told, items(*range(98)))
        within = binding(("pair", X, X), x=pair(NUM, many(either(A, TRUTH))))
        # A pair, a number, a list, and two parts for each item, twice; and the pair.
        self.check_size(within, 48, 1 + 2 * (3 + 2 * 48), True)
        self.check_size(within, 49, 1 + 2 * (3 + 2 * 49), False)
        self.check_size(binding(("left", ("pair", X, X), NUM), x=pair(NUM, many(either(A, TRUTH)))), 48, 200, True)

    def check_size(self, told, length, parts, held):
        self.assertIs(parts <= 200, held)
        handed = ("pair", 5, items(*[("left", A0)] * length))
        if held:
            self.assertEqual(run(told, (handed,))[0], "worth")
        else:
            self.too_much(told, handed)

    def test_parts_of_lists(self):
        for many_items, held in ((198, True), (199, False)):
            handed = items(*range(many_items))
            more = binding(("more", num(5), X), x=many(NUM))
            self.told_or_not(held, worth(items(5, *range(many_items)), 2), more, handed)
            turn = call(name("c"), X, Y)
            put = binding(("built", NUM, "o", "c", "n", call(name("c"), num(4), ("fold", X, name("n"), "x", "y", turn))),
                          x=many(NUM))
            self.told_or_not(held, worth(items(4, *range(many_items)), 6 + 4 * many_items), put, handed)
        copied = binding(("fold", X, NIL, "x", "y", ("more", X, Y)), x=many(NUM))
        self.check(worth(items(*range(199)), 2 + 2 * 199), copied, items(*range(199)))
        self.too_much(copied, items(*range(200)))

    def test_parts_of_what_is_made_of_worths_made_in_the_run(self):
        """A list of so many items is copied item by item; the bound is where each word brings it to 200 parts."""
        copies = (("fold", X, NIL, "x", "y", ("more", X, Y)),
                  ("built", NUM, "o", "c", "n", ("fold", X, name("n"), "x", "y", call(name("c"), X, Y))))
        added = call(name("c"), num(4), ("fold", X, name("n"), "x", "y", call(name("c"), X, Y)))
        for copy in copies:
            for most, told, made in (
                (197, ("pair", copy, num(1)), lambda handed: ("pair", handed, 1)),
                (197, ("pair", num(1), copy), lambda handed: ("pair", 1, handed)),
                (98, ("pair", ("first", ("pair", copy, num(1))), copy), lambda handed: ("pair", handed, handed)),
                (198, ("left", copy, NUM), lambda handed: ("left", handed)),
                (198, ("right", NUM, copy), lambda handed: ("right", handed)),
                (197, ("left", ("right", NUM, copy), NUM), lambda handed: ("left", ("right", handed))),
                (198, ("more", num(4), copy), lambda handed: items(4, *handed[1])),
                (198, ("more", copy, ("none", many(NUM))), lambda handed: items(handed)),
                (198, ("built", NUM, "p", "c", "n", added), lambda handed: items(4, *handed[1])),
            ):
                self.at_the_bound(most, binding(told, x=many(NUM)), made)

    def at_the_bound(self, most, term, made):
        """Just so many items are not too much, one more is."""
        kind_of(term, ())
        handed = items(*range(most))
        self.assertEqual(run(term, (handed,))[1], made(handed))
        self.too_much(term, items(*range(most + 1)))

    def test_parts_of_what_is_taken_out_and_made_anew(self):
        # A list, two pairs or sides around it and a number.
        for most, told in ((196, ("pair", ("first", Y), ("left", ("second", Y), NUM))),
                           (196, ("pair", ("right", NUM, ("second", Y)), ("first", Y)))):
            for length, held in ((most, True), (most + 1, False)):
                handed = ("pair", 5, items(*range(length)))
                term = binding(told, y=pair(NUM, many(NUM)))
                if held:
                    self.assertEqual(run(term, (handed,))[0], "worth")
                else:
                    self.too_much(term, handed)

    def test_parts_of_the_rest_of_a_list(self):
        # An item that is a list itself: taken out by a fold, and put on again.
        inner = many(NUM)
        told = binding(("fold", X, ("none", inner), "i", "a", ("more", name("i"), ("more", name("i"), name("a")))),
                       x=many(inner))
        self.assertEqual(run(told, (items(items(*range(98))),))[0], "worth")
        self.assertEqual(1 + 2 * 99, 199)
        self.too_much(told, items(items(*range(99))))
        self.assertEqual(run(told, (items(items(*range(48)), items(*range(49))),))[0], "worth")
        self.assertEqual(1 + 2 * 49 + 2 * 50, 199)
        self.too_much(told, items(items(*range(49)), items(*range(49))))

    def test_parts_of_made_ones_of_worths_handed_in_and_made(self):
        row, leaf = A, A0
        for level in range(98):
            row, leaf = pair(A, row), ("pair", A0, leaf)
        # 99 things and 98 pairs.
        for args, told, held in (
            ((("maker", 0, 1), leaf), call(F, X), True), ((("maker", 0, 1), ("pair", A0, leaf)), call(F, X), True),
            ((("maker", 0, 1), ("pair", A0, ("pair", A0, leaf))), call(F, X), False),
        ):
            kind = row
            worth_in = args[1]
            while worth_in != leaf:
                kind, worth_in = pair(A, kind), worth_in[2]
            term = binding(told, f=fun(kind, B), x=kind)
            if held:
                self.assertEqual(run(term, args)[1], ("made", 0, (args[1],)))
            else:
                self.too_much(term, *args)
        # The same, the last pair being made in the run; and with two arguments.
        once = binding(call(F, ("pair", Y, X)), f=fun(pair(A, row), B), x=row, y=A)
        self.assertEqual(run(once, (("maker", 0, 1), leaf, A1))[0], "worth")
        twice = binding(call(F, ("pair", Y, ("pair", Y, X))), f=fun(pair(A, pair(A, row)), B), x=row, y=A)
        self.too_much(twice, ("maker", 0, 1), leaf, A1)
        both = binding(call(F, X, Y), f=fun(row, A, B), x=row, y=A)
        self.assertEqual(run(both, (("maker", 0, 2), leaf, A1))[0], "worth")
        three = binding(call(F, X, Y, Y, Y), f=fun(row, A, A, A, B), x=row, y=A)
        self.too_much(three, ("maker", 0, 4), leaf, A1)
        self.assertEqual(run(binding(call(F, X, Y, Y), f=fun(row, A, A, B), x=row, y=A),
                             (("maker", 0, 3), leaf, A1))[0], "worth")

    def test_a_list_made_item_by_item(self):
        inner = ("fold", X, name("a"), "j", "b", ("more", name("j"), name("b")))
        term = binding(("fold", X, NIL, "i", "a", inner), x=many(NUM))
        self.check(worth(items(*[*range(12)] * 12), 314), term, items(*range(12)))
        self.assertEqual(run(term, (items(*range(14)),))[2], 1 + 1 + 14 * (2 + 2 * 14))
        # 15 times 15 items are too many: at the two hundredth.
        self.too_much(term, items(*range(15)))

    def test_parts_of_made_ones(self):
        told = binding(("fold", Z, X, "u", "y", call(F, Y)), f=fun(A, A), x=A, z=many(NUM))
        deep = A0
        for level in range(199):
            deep = ("made", 0, (deep,))
        outcome = run(told, (("maker", 0, 1), A0, items(*range(199))))
        self.assertEqual(outcome[0::2], ("worth", 4 + 2 * 199))
        self.assertTrue(same_deep(outcome[1], deep))
        self.too_much(told, ("maker", 0, 1), A0, items(*range(200)))
        pairs = binding(("fold", Z, X, "u", "y", call(F, Y, Y)), f=fun(A, A, A), x=A, z=many(NUM))
        self.assertEqual(run(pairs, (("maker", 0, 2), A0, items(*range(6))))[0], "worth")
        self.too_much(pairs, ("maker", 0, 2), A0, items(*range(7)))

    def test_alike_of_deep_made_ones(self):
        grown = ("fold", Z, X, "u", "y", call(F, Y))
        told = binding(("alike", grown, grown), f=fun(A, A), x=A, z=many(NUM))
        self.check(worth(True, 3 + 2 * (1 + 2 * 199)), told, ("maker", 0, 1), A0, items(*range(199)), looked=("a",))

    def test_what_is_handed_in_is_not_made(self):
        self.check(worth(items(*range(900)), 1), binding(X, x=many(NUM)), items(*range(900)))
        self.check(worth(899, 901 + 1), binding(("fold", X, num(0), "x", "y", ("if", ("less", X, Y), Y, X)), x=many(NUM)),
                   items(*range(900)))
        rows = table((False, items(*range(300))), (True, items()))
        self.check(worth(items(*range(300)), 2), binding(call(F, NO), f=fun(TRUTH, many(NUM))), rows)

    def test_too_much_is_a_refusal(self):
        with self.assertRaises(KindError):
            run(num(10 ** 31), ())


def same_deep(one, other):
    while one[0] == other[0] == "made":
        if one[1] != other[1] or len(one[2]) != 1 or len(other[2]) != 1:
            return False
        one, other = one[2][0], other[2][0]
    return one == other


class Deep(Runs):
    def test_functions_within_functions(self):
        wrapped = binding(("plus", X, num(1)), x=NUM)
        for level in range(17):
            wrapped = call(binding(call(F, ("plus", X, num(1))), f=fun(NUM, NUM), x=NUM), wrapped)
        self.check(worth(18, 17 + 1 + 17), wrapped, 0)

    def test_somewhat_beyond_the_bounds(self):
        wrapped = binding(("plus", X, num(1)), x=NUM)
        for level in range(40):
            wrapped = call(binding(call(F, ("plus", X, num(1))), f=fun(NUM, NUM), x=NUM), wrapped)
        self.check(worth(41, 40 + 1 + 40), wrapped, 0)
        deep = num(0)
        for level in range(60):
            deep = ("plus", num(1), deep)
        self.check(worth(60, 0), deep)

    def test_names_behind_one_another(self):
        term = call(name("fi"), num(1))
        letters = "abcdefghi"
        for at in range(8, -1, -1):
            inner = ("plus", X, num(1)) if at == 0 else call(name("f" + letters[at - 1]), call(
                name("f" + letters[at - 1]), X))
            term = call(("fun", "f" + letters[at], fun(NUM, NUM), term), binding(inner, x=NUM))
        self.check(worth(257, 9 + 511), term)


class ByOtherMeans(Runs):
    KINDS = (
        (fun(fun(A, TRUTH), many(A), A, pair(A, many(A))), ()),
        (fun(fun(A, A), A, many(A), many(A)), ()),
        (fun(many(A), A, A, TRUTH), ("a",)),
        (fun(fun(A, B, TRUTH), A, pair(B, many(A)), either(A, B)), ("b",)),
        (fun(many(NUM), NUM, NUM), ()),
        (fun(either(A, TRUTH), many(either(A, NUM)), many(A)), ()),
    )

    def test_random_functions(self):
        seen = {"worth": 0, "fault": 0, "too much": 0}
        for at, (kind, looked) in enumerate(self.KINDS):
            for seed in range(80):
                terms = Terms(1000 * at + seed, looked)
                term = terms.function(kind)
                self.assertEqual(kind_of(term, looked), kind)
                for turn in range(2):
                    args = random_arguments(terms, kind)
                    told = slow_run(term, args)
                    seen["too much" if told == "too much" else told[0]] += 1
                    if told == "too much":
                        self.too_much(term, *args)
                    else:
                        self.assertEqual(repr(run(term, args)), repr(told), (term, args))
        self.assertGreater(min(seen["worth"], seen["fault"]), 100)


def random_arguments(terms, kind):
    """Arguments of a kind by some sizes, tables with faults among them; makers, too."""
    sizes = (("a", 2), ("b", 2))
    args = []
    while kind[0] == "fun":
        last = kind[1]
        while last[0] == "fun":
            last = last[2]
        if kind[1][0] == "fun" and last[0] == "open" and terms.random.random() < 0.5:
            args.append(("maker", len(args), 1))
        else:
            args.append(random_worth(terms, kind[1], sizes))
        kind = kind[2]
    return tuple(args)


def random_worth(terms, kind, sizes):
    word = kind[0]
    if word == "fun":
        return ("table", tuple((asked, random_answer(terms, kind[2], sizes)) for asked in slow_worths(kind[1], sizes, 0)))
    if word == "list":
        return ("list", tuple(random_worth(terms, kind[1], sizes) for at in range(terms.random.randrange(5))))
    if word == "num":
        return terms.random.randrange(5)
    if word == "pair":
        return ("pair", random_worth(terms, kind[1], sizes), random_worth(terms, kind[2], sizes))
    if word == "either":
        side = terms.random.randrange(2)
        return (("left", "right")[side], random_worth(terms, kind[1 + side], sizes))
    return terms.pick(slow_worths(kind, sizes, 0))


def random_answer(terms, kind, sizes):
    if kind[0] != "fun" and terms.random.random() < 0.1:
        return FAULT
    return random_worth(terms, kind, sizes)


if __name__ == "__main__":
    unittest.main()
