"""What the document says of the whole, asked of many functions that a seeded source makes."""

import random
import unittest

from kindalone.cases import cases_of
from kindalone.checking import kind_of
from kindalone.errors import KindError, NoKind, TooMany, TooMuch, Unbounded
from kindalone.findings import finding_holds
from kindalone.kinds import is_walked, opens_in, result_of
from kindalone.parting import parted
from kindalone.running import run
from kindalone.settings import is_setting
from kindalone.showchecks import paper_holds
from kindalone.showing import shown
from kindalone.ties import tied
from kindalone.tries import tries_of, unbounded_at
from tests.randomterms import Terms
from tests.samples import A, B, NUM, TRUTH, either, fun, many, pair
from tests.slow import arguments, slow_cases, slow_run, slow_tied, slow_told, slow_tries, slow_worths
from tests.test_findings import told_of

KINDS = (
    (fun(A, A, A), ()),
    (fun(A, A, TRUTH), ("a",)),
    (fun(many(A), A, A), ()),
    (fun(many(A), A, many(A)), ("a",)),
    (fun(fun(A, TRUTH), many(A), many(A)), ()),
    (fun(fun(A, A), A, many(A)), ()),
    (fun(A, fun(A, A), TRUTH), ("a",)),
    (fun(fun(A, B), A, pair(B, A)), ()),
    (fun(either(A, B), B, many(either(B, A))), ("b",)),
    (fun(NUM, many(A), either(A, NUM)), ("a",)),
    (fun(pair(A, TRUTH), fun(TRUTH, A), A), ()),
)


def random_setting(terms, names, looked):
    """A setting of the names that keeps those that are looked at."""
    rows = []
    for name in names:
        lefts, rights = terms.random.randrange(1, 4), terms.random.randrange(1, 3)
        pairs = [(left, right) for left in range(lefts) for right in range(rights) if terms.random.random() < 0.6]
        if name in looked:
            terms.random.shuffle(pairs)
            pairs = [two for at, two in enumerate(pairs) if not [ahead for ahead in pairs[:at]
                                                                 if ahead[0] == two[0] or ahead[1] == two[1]]]
        rows.append((name, lefts, rights, tuple(sorted(pairs))))
    return tuple(rows)


def outcome(term, args):
    try:
        return run(term, args)
    except TooMuch:
        return ("too much", None)


class TiedToItself(unittest.TestCase):
    def test_each_function_is_tied_to_itself_in_as_many_steps(self):
        seen = {"worth": 0, "fault": 0, "too much": 0}
        for at, (kind, looked) in enumerate(KINDS):
            for seed in range(40):
                terms = Terms(7000 * at + seed, looked)
                term = terms.function(kind)
                self.assertEqual(kind_of(term, looked), kind)
                setting = random_setting(terms, opens_in(kind), looked)
                self.assertTrue(is_setting(setting))
                self.at_each_case(term, kind, setting, seen)
        self.assertGreater(min(seen["worth"], seen["fault"]), 500)

    def at_each_case(self, term, kind, setting, seen):
        try:
            cases = cases_of(kind, setting, 2)
        except TooMany:
            return
        for case in cases:
            left = outcome(term, tuple(one for one, other in case))
            right = outcome(term, tuple(other for one, other in case))
            seen[left[0]] += 1
            self.assertEqual((left[0], left[-1]), (right[0], right[-1]), (term, setting, case))
            if left[0] == "worth":
                self.assertTrue(tied(result_of(kind), setting, left[1], right[1]), (term, setting, case))

    def test_each_function_is_shown_to_hold(self):
        seen = 0
        for at, (kind, looked) in enumerate(KINDS):
            for seed in range(10):
                terms = Terms(9000 * at + seed, looked)
                term = terms.function(kind, 4)
                setting = random_setting(terms, opens_in(kind), looked)
                try:
                    told = shown(term, looked, setting, 1)
                except (TooMany, TooMuch):
                    continue
                self.assertEqual(told[0], "holds", (term, setting))
                self.assertIs(paper_holds(term, looked, setting, 1, told[1]), True)
                seen += 1
        self.assertGreater(seen, 50)


# Kinds whose tries have an end, by these looked names, and which bound is asked.
ENDING = (
    (fun(A, A, A), (), 0),
    (fun(A, A, A, TRUTH), ("a",), 0),
    (fun(many(A), A, A), (), 2),
    (fun(many(A), A, many(A)), ("a",), 2),
    (fun(fun(A, TRUTH), many(A), A, A), (), 2),
    (fun(fun(A, TRUTH), A, A, TRUTH), ("a",), 0),
    (fun(fun(A, A), A, many(A), many(A)), (), 1),
    (fun(fun(A, B), A, A, pair(B, A)), (), 0),
    (fun(fun(A, B, B), many(A), B, B), (), 2),
    (fun(either(A, B), B, many(either(B, A))), ("b",), 1),
    (fun(NUM, many(A), A, either(A, NUM)), (), 2),
    (fun(fun(TRUTH, A), fun(B, TRUTH), B, A), (), 0),
    (fun(fun(A, NUM), A, A, NUM), (), 1),
)


def random_worth(terms, kind, sizes, bound):
    """A worth within the bound, tables without faults."""
    word = kind[0]
    if word == "fun":
        asked = slow_worths(kind[1], sizes, bound)
        return ("table", tuple((worth, random_worth(terms, kind[2], sizes, bound)) for worth in asked))
    if word == "list":
        long = terms.random.randrange(bound + 1)
        return ("list", tuple(random_worth(terms, kind[1], sizes, bound) for at in range(long)))
    if word == "pair":
        return ("pair", *[random_worth(terms, part, sizes, bound) for part in kind[1:]])
    if word == "either":
        side = terms.random.randrange(2)
        return (("left", "right")[side], random_worth(terms, kind[1 + side], sizes, bound))
    return terms.pick(slow_worths(kind, sizes, bound))


class AlikeOnTries(unittest.TestCase):
    def test_alike_on_the_tries_is_alike_at_all_arguments(self):
        alike = unlike = 0
        for at, (kind, looked, bound) in enumerate(ENDING):
            self.assertIsNone(unbounded_at(kind, looked))
            functions = self.functions(at, kind, looked)
            tries = tries_of(kind, looked, bound)
            groups = {}
            for term in functions:
                told = repr([outcome(term, tried)[:-1] for tried in tries])
                if "too much" not in told:
                    groups.setdefault(told, []).append(term)
            for group in groups.values():
                alike += len(group) - 1
                self.alike(Terms(at), group, kind, looked, bound)
            firsts = [group[0] for group in groups.values()]
            unlike += len(firsts) - 1
            for one, other in zip(firsts, firsts[1:]):
                tried, left, right = parted(one, other, looked, bound)
                self.assertIn(tried, tries)
                self.assertEqual((left, right), (run(one, tried), run(other, tried)))
                self.assertNotEqual(left[:-1], right[:-1])
        self.assertGreater(min(alike, unlike), 80)

    def functions(self, at, kind, looked):
        return [Terms(100 * at + seed, looked, seed % 4 == 0).function(kind, 2 + seed % 3) for seed in range(100)]

    def alike(self, terms, group, kind, looked, bound):
        """None of a group is parted from its first one, and at no arguments whatever do they differ."""
        for term in group[1:]:
            self.assertIsNone(parted(group[0], term, looked, bound))
        for turn in range(20):
            sizes = tuple((name, terms.random.randrange(1, 5)) for name in opens_in(kind))
            args = tuple(random_worth(terms, argument, sizes, bound) for argument in arguments(kind))
            told = {repr(outcome(term, args)[:-1]) for term in group}
            self.assertEqual(len(told), 1, (group, args))

    def test_of_kinds_whose_tries_have_no_end_it_is_said(self):
        for kind, looked, number in ((fun(fun(A, many(A)), A, A), (), 0), (fun(A, fun(A, A), A), ("a",), 1),
                                     (fun(fun(B, B), fun(B, TRUTH), B, B), (), 1)):
            self.assertEqual(unbounded_at(kind, looked), number)
            for seed in range(10):
                terms = Terms(seed, looked)
                one, other = terms.function(kind, 3), terms.function(kind, 3)
                with self.assertRaises(Unbounded) as caught:
                    parted(one, other, looked, 1)
                self.assertEqual(caught.exception.argument, number)


def answered(outcome):
    return outcome[1] if outcome[0] == "worth" else ("fault",)


def is_so(finding):
    """Whether a finding is so, by other means; its parts are of the right forms."""
    word, term, looked = finding[0], finding[1], finding[3 if finding[0] in ("alike", "parted") else 2]
    try:
        kind = kind_of(term, looked)
        if word in ("alike", "parted") and kind_of(finding[2], looked) != kind:
            return False
    except NoKind:
        return False
    if word == "kind":
        return kind == finding[3]
    return is_walked(kind) and {"holds": so_holds, "fails": so_fails, "alike": so_alike, "parted": so_parted}[word](kind, finding)


def so_holds(kind, finding):
    word, term, looked, setting, bound, paper = finding
    if not set(opens_in(kind)) <= {row[0] for row in setting}:
        return False
    for at in (1, 2):
        sizes = tuple((row[0], row[at]) for row in setting)
        if any(len(slow_worths(argument, sizes, bound)) > 100 for argument in arguments(kind)):
            return False
    cases = slow_cases(kind, setting, bound)
    rows = tuple(tuple(slow_run(term, tuple(two[at] for two in case)) for at in (0, 1)) for case in cases)
    if len(cases) > 200 or any("too much" in row for row in rows) or repr(rows) != repr(paper):
        return False
    return all(slow_told(result_of(kind), setting, *map(answered, row)) for row in rows)


def so_fails(kind, finding):
    word, term, looked, setting, case, left, right = finding
    if not set(opens_in(kind)) <= {row[0] for row in setting} or len(case) != len(arguments(kind)):
        return False
    for argument, (one, other) in zip(arguments(kind), case):
        sides = [tuple((row[0], row[at]) for row in setting) for at in (1, 2)]
        if one not in slow_worths(argument, sides[0], 3) or other not in slow_worths(argument, sides[1], 3):
            return False
        if not slow_tied(argument, setting, one, other):
            return False
    outcomes = tuple(slow_run(term, tuple(two[at] for two in case)) for at in (0, 1))
    if repr(outcomes) != repr((left, right)):
        return False
    return not slow_told(result_of(kind), setting, *map(answered, outcomes))


def so_alike(kind, finding):
    word, one, other, looked, bound, paper = finding
    if unbounded_at(kind, looked) is not None:
        return False
    tries = slow_tries(kind, looked, bound, 4)
    outcomes = [(slow_run(one, tried), slow_run(other, tried)) for tried in tries]
    if len(tries) > 200 or any("too much" in two or repr(two[0][:-1]) != repr(two[1][:-1]) for two in outcomes):
        return False
    rows = [(tried, two[0][:-1]) for tried, two in zip(tries, outcomes)]
    return sorted(map(repr, rows)) == sorted(map(repr, paper))


def so_parted(kind, finding):
    word, one, other, looked, args, left, right = finding
    if len(args) != len(arguments(kind)):
        return False
    for at, (argument, worth) in enumerate(zip(arguments(kind), args)):
        last = argument
        while last[0] == "fun":
            last = last[2]
        makers = [("maker", at, len(arguments(argument)))] if argument[0] == "fun" and last[0] == "open" else []
        # In what is drawn here a table has as many rows as there are things in the data, or this is told.
        if worth not in makers and worth not in slow_worths(argument, sizes_of(args), 3):
            return False
    outcomes = (slow_run(one, args), slow_run(other, args))
    return repr(outcomes) == repr((left, right)) and repr(left[:-1]) != repr(right[:-1])


def sizes_of(thing):
    """For each name the greatest number that is named, and one."""
    found = {}
    waiting = [thing]
    while waiting:
        part = waiting.pop()
        if isinstance(part, tuple) and len(part) == 3 and part[0] == "thing":
            found[part[1]] = max(found.get(part[1], 0), part[2] + 1)
        elif isinstance(part, tuple):
            waiting.extend(part)
    return tuple(sorted(found.items()))


class FindingsAreSo(unittest.TestCase):
    KINDS = ((fun(A, A, A), ()), (fun(A, A, TRUTH), ("a",)), (fun(A, A, NUM), ("a",)), (fun(fun(A, B), A, B), ()),
             (fun(fun(A, TRUTH), A, A, A), ("a",)), (fun(many(A), NUM, NUM), ("a",)))

    def test_whoever_wrote_them(self):
        drawn = random.Random(3)
        findings = []
        for at, (kind, looked) in enumerate(self.KINDS):
            for seed in range(16):
                terms = Terms(640 * at + seed, looked, seed % 2 == 0)
                found = told_of(terms.function(kind, 3), terms.function(kind, 2), kind, looked)
                findings += [finding for finding in found if finding[0] != "led"]
        seen = {}
        for turn in range(1500):
            finding = drawn.choice(findings)
            for change in range(drawn.randrange(1, 3)):
                finding = self.changed(drawn, finding, findings)
            held = is_so(finding)
            self.assertIs(finding_holds(finding), held, finding)
            seen[finding[0], held] = seen.get((finding[0], held), 0) + 1
        for word in ("kind", "holds", "fails", "alike", "parted"):
            self.assertGreater(min(seen.get((word, True), 0), seen.get((word, False), 0)), 5, seen)

    def changed(self, drawn, finding, findings):
        """The finding with one part of another one of its word."""
        other = drawn.choice([one for one in findings if one[0] == finding[0]])
        at = drawn.randrange(1, len(finding))
        return finding[:at] + (other[at],) + finding[at + 1:]


class Refusals(unittest.TestCase):
    def test_no_refusal_stands_under_another_one(self):
        classes = KindError.__subclasses__()
        self.assertEqual(len(classes), 13)
        for one in classes:
            self.assertEqual(one.__bases__, (KindError,))
        self.assertTrue(issubclass(KindError, ValueError))


if __name__ == "__main__":
    unittest.main()
