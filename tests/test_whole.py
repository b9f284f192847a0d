"""What the document says of the whole, asked of many functions that a seeded source makes."""

import unittest

from kindalone.cases import cases_of
from kindalone.checking import kind_of
from kindalone.errors import TooMany, TooMuch
from kindalone.kinds import opens_in, result_of
from kindalone.parting import parted
from kindalone.running import run
from kindalone.settings import is_setting
from kindalone.showchecks import paper_holds
from kindalone.showing import shown
from kindalone.ties import tied
from kindalone.tries import tries_of, unbounded_at
from tests.randomterms import Terms
from tests.samples import A, B, NUM, TRUTH, either, fun, many, pair
from tests.slow import arguments, slow_worths

KINDS = (
    (fun(A, A, A), ()),
    (fun(A, A, TRUTH), ("a",)),
    (fun(many(A), A, A), ()),
    (fun(many(A), A, many(A)), ("a",)),
    (fun(fun(A, TRUTH), many(A), many(A)), ()),
    (fun(fun(A, A), A, many(A)), ()),
    (fun(A, fun(A, A), TRUTH), ("a",)),
    (fun(fun(A, B), A, pair(B, A)), ()),
    (fun(either(A, B), B, many(either(B, A))), ("b",)),
    (fun(NUM, many(A), either(A, NUM)), ("a",)),
    (fun(pair(A, TRUTH), fun(TRUTH, A), A), ()),
)


def random_setting(terms, names, looked):
    """A setting of the names that keeps those that are looked at."""
    rows = []
    for name in names:
        lefts, rights = terms.random.randrange(1, 4), terms.random.randrange(1, 3)
        pairs = [(left, right) for left in range(lefts) for right in range(rights) if terms.random.random() < 0.6]
        if name in looked:
            terms.random.shuffle(pairs)
            pairs = [two for at, two in enumerate(pairs) if not [ahead for ahead in pairs[:at]
                                                                 if ahead[0] == two[0] or ahead[1] == two[1]]]
        rows.append((name, lefts, rights, tuple(sorted(pairs))))
    return tuple(rows)


def outcome(term, args):
    try:
        return run(term, args)
    except TooMuch:
        return ("too much", None)


class TiedToItself(unittest.TestCase):
    def test_each_function_is_tied_to_itself_in_as_many_steps(self):
        seen = {"worth": 0, "fault": 0, "too much": 0}
        for at, (kind, looked) in enumerate(KINDS):
            for seed in range(40):
                terms = Terms(7000 * at + seed, looked)
                term = terms.function(kind)
                self.assertEqual(kind_of(term, looked), kind)
                setting = random_setting(terms, opens_in(kind), looked)
                self.assertTrue(is_setting(setting))
                self.at_each_case(term, kind, setting, seen)
        self.assertGreater(min(seen["worth"], seen["fault"]), 500)

    def at_each_case(self, term, kind, setting, seen):
        try:
            cases = cases_of(kind, setting, 2)
        except TooMany:
            return
        for case in cases:
            left = outcome(term, tuple(one for one, other in case))
            right = outcome(term, tuple(other for one, other in case))
            seen[left[0]] += 1
            self.assertEqual((left[0], left[-1]), (right[0], right[-1]), (term, setting, case))
            if left[0] == "worth":
                self.assertTrue(tied(result_of(kind), setting, left[1], right[1]), (term, setting, case))

    def test_each_function_is_shown_to_hold(self):
        seen = 0
        for at, (kind, looked) in enumerate(KINDS):
            for seed in range(10):
                terms = Terms(9000 * at + seed, looked)
                term = terms.function(kind, 4)
                setting = random_setting(terms, opens_in(kind), looked)
                try:
                    told = shown(term, looked, setting, 1)
                except (TooMany, TooMuch):
                    continue
                self.assertEqual(told[0], "holds", (term, setting))
                self.assertIs(paper_holds(term, looked, setting, 1, told[1]), True)
                seen += 1
        self.assertGreater(seen, 50)


# Kinds whose tries have an end, by these looked names, and which bound is asked.
ENDING = (
    (fun(A, A, A), (), 0),
    (fun(A, A, A, TRUTH), ("a",), 0),
    (fun(many(A), A, A), (), 2),
    (fun(many(A), A, many(A)), ("a",), 2),
    (fun(fun(A, TRUTH), many(A), A, A), (), 2),
    (fun(fun(A, TRUTH), A, A, TRUTH), ("a",), 0),
    (fun(fun(A, A), A, many(A), many(A)), (), 1),
    (fun(fun(A, B), A, A, pair(B, A)), (), 0),
    (fun(fun(A, B, B), many(A), B, B), (), 2),
    (fun(either(A, B), B, many(either(B, A))), ("b",), 1),
    (fun(NUM, many(A), A, either(A, NUM)), (), 2),
    (fun(fun(TRUTH, A), fun(B, TRUTH), B, A), (), 0),
    (fun(fun(A, NUM), A, A, NUM), (), 1),
)


def random_worth(terms, kind, sizes, bound):
    """A worth within the bound, tables without faults."""
    word = kind[0]
    if word == "fun":
        asked = slow_worths(kind[1], sizes, bound)
        return ("table", tuple((worth, random_worth(terms, kind[2], sizes, bound)) for worth in asked))
    if word == "list":
        long = terms.random.randrange(bound + 1)
        return ("list", tuple(random_worth(terms, kind[1], sizes, bound) for at in range(long)))
    if word == "pair":
        return ("pair", *[random_worth(terms, part, sizes, bound) for part in kind[1:]])
    if word == "either":
        side = terms.random.randrange(2)
        return (("left", "right")[side], random_worth(terms, kind[1 + side], sizes, bound))
    return terms.pick(slow_worths(kind, sizes, bound))


class AlikeOnTries(unittest.TestCase):
    def test_alike_on_the_tries_is_alike_at_all_arguments(self):
        alike = unlike = 0
        for at, (kind, looked, bound) in enumerate(ENDING):
            self.assertIsNone(unbounded_at(kind, looked))
            functions = self.functions(at, kind, looked)
            tries = tries_of(kind, looked, bound)
            groups = {}
            for term in functions:
                told = repr([outcome(term, tried)[:-1] for tried in tries])
                if "too much" not in told:
                    groups.setdefault(told, []).append(term)
            for group in groups.values():
                alike += len(group) - 1
                self.alike(Terms(at), group, kind, looked, bound)
            firsts = [group[0] for group in groups.values()]
            unlike += len(firsts) - 1
            for one, other in zip(firsts, firsts[1:]):
                tried, left, right = parted(one, other, looked, bound)
                self.assertIn(tried, tries)
                self.assertEqual((left, right), (run(one, tried), run(other, tried)))
                self.assertNotEqual(left[:-1], right[:-1])
        self.assertGreater(min(alike, unlike), 80)

    def functions(self, at, kind, looked):
        return [Terms(100 * at + seed, looked, seed % 4 == 0).function(kind, 2 + seed % 3) for seed in range(100)]

    def alike(self, terms, group, kind, looked, bound):
        """None of a group is parted from its first one, and at no arguments whatever do they differ."""
        for term in group[1:]:
            self.assertIsNone(parted(group[0], term, looked, bound))
        for turn in range(20):
            sizes = tuple((name, terms.random.randrange(1, 5)) for name in opens_in(kind))
            args = tuple(random_worth(terms, argument, sizes, bound) for argument in arguments(kind))
            told = {repr(outcome(term, args)[:-1]) for term in group}
            self.assertEqual(len(told), 1, (group, args))


if __name__ == "__main__":
    unittest.main()
