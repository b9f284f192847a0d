"""What the document says of the whole, asked of many functions that a seeded source makes."""

import unittest

from kindalone.cases import cases_of
from kindalone.checking import kind_of
from kindalone.errors import TooMany, TooMuch
from kindalone.kinds import opens_in, result_of
from kindalone.running import run
from kindalone.settings import is_setting
from kindalone.ties import tied
from tests.randomterms import Terms
from tests.samples import A, B, NUM, TRUTH, either, fun, many, pair

KINDS = (
    (fun(A, A, A), ()),
    (fun(A, A, TRUTH), ("a",)),
    (fun(many(A), A, A), ()),
    (fun(many(A), A, many(A)), ("a",)),
    (fun(fun(A, TRUTH), many(A), many(A)), ()),
    (fun(fun(A, A), A, many(A)), ()),
    (fun(A, fun(A, A), TRUTH), ("a",)),
    (fun(fun(A, B), A, pair(B, A)), ()),
    (fun(either(A, B), B, many(either(B, A))), ("b",)),
    (fun(NUM, many(A), either(A, NUM)), ("a",)),
    (fun(pair(A, TRUTH), fun(TRUTH, A), A), ()),
)


def random_setting(terms, names, looked):
    """A setting of the names that keeps those that are looked at."""
    rows = []
    for name in names:
        lefts, rights = terms.random.randrange(1, 4), terms.random.randrange(1, 3)
        pairs = [(left, right) for left in range(lefts) for right in range(rights) if terms.random.random() < 0.6]
        if name in looked:
            terms.random.shuffle(pairs)
            pairs = [two for at, two in enumerate(pairs) if not [ahead for ahead in pairs[:at]
                                                                 if ahead[0] == two[0] or ahead[1] == two[1]]]
        rows.append((name, lefts, rights, tuple(sorted(pairs))))
    return tuple(rows)


def outcome(term, args):
    try:
        return run(term, args)
    except TooMuch:
        return ("too much", None)


class TiedToItself(unittest.TestCase):
    def test_each_function_is_tied_to_itself_in_as_many_steps(self):
        seen = {"worth": 0, "fault": 0, "too much": 0}
        for at, (kind, looked) in enumerate(KINDS):
            for seed in range(40):
                terms = Terms(7000 * at + seed, looked)
                term = terms.function(kind)
                self.assertEqual(kind_of(term, looked), kind)
                setting = random_setting(terms, opens_in(kind), looked)
                self.assertTrue(is_setting(setting))
                self.at_each_case(term, kind, setting, seen)
        self.assertGreater(min(seen["worth"], seen["fault"]), 500)

    def at_each_case(self, term, kind, setting, seen):
        try:
            cases = cases_of(kind, setting, 2)
        except TooMany:
            return
        for case in cases:
            left = outcome(term, tuple(one for one, other in case))
            right = outcome(term, tuple(other for one, other in case))
            seen[left[0]] += 1
            self.assertEqual((left[0], left[-1]), (right[0], right[-1]), (term, setting, case))
            if left[0] == "worth":
                self.assertTrue(tied(result_of(kind), setting, left[1], right[1]), (term, setting, case))


if __name__ == "__main__":
    unittest.main()
