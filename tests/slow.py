"""What the document says of runs, ties, cases and tries, written down once more by other means, however slow."""

import itertools

MOST_STEPS = 1000
GREATEST = 10 ** 30
MOST_PARTS = 200


class SlowFault(Exception):
    pass


class SlowTooMuch(Exception):
    pass


def slow_parts(worth):
    """How many parts a worth has."""
    if not isinstance(worth, tuple) or worth[0] == "thing":
        return 1
    inner = worth[-1] if worth[0] in ("list", "made") else worth[1:]
    return 1 + sum(slow_parts(part) for part in inner)


class SlowRun:
    """A term is turned into a Python function of its names; functions are Python functions of one argument."""

    def __init__(self):
        self.steps = 0

    def step(self):
        self.steps += 1
        if self.steps > MOST_STEPS:
            raise SlowTooMuch

    def made(self, worth):
        if slow_parts(worth) > MOST_PARTS:
            raise SlowTooMuch
        return worth

    def number(self, number):
        if number > GREATEST:
            raise SlowTooMuch
        return number

    def apply(self, function, argument):
        self.step()
        return function(argument)

    def put(self, item, rest):
        self.step()
        return self.made(("list", (item,) + rest[1]))

    def handed(self, worth):
        """A worth that is handed in, as a Python function where it is one."""
        if isinstance(worth, tuple) and worth[0] == "table":
            return lambda asked: self.told(worth, asked)
        if isinstance(worth, tuple) and worth[0] == "maker":
            return self.maker(worth, ())
        return worth

    def told(self, table, asked):
        told = [told for worth, told in table[1] if worth == asked]
        if told in ([], [("fault",)]):
            raise SlowFault
        return self.handed(told[0])

    def maker(self, worth, had):
        if len(had) + 1 < worth[2]:
            return lambda argument: self.maker(worth, had + (argument,))
        return lambda argument: self.made(("made", worth[1], had + (argument,)))

    def go(self, term, names):
        word, parts = term[0], term[1:]
        if word == "name":
            return names[parts[0]]
        if word == "fun":
            return lambda argument: self.go(parts[2], {**names, parts[0]: argument})
        if word == "num":
            return self.number(parts[0])
        if word == "truth":
            return parts[0]
        if word == "none":
            return ("list", ())
        if word == "fault":
            raise SlowFault
        if word == "if":
            return self.go(parts[1] if self.go(parts[0], names) else parts[2], names)
        if word == "case":
            side, worth = self.go(parts[0], names)
            x, inner = parts[1:3] if side == "left" else parts[3:5]
            return self.go(inner, {**names, x: worth})
        if word == "fold":
            items, told = self.go(parts[0], names), self.go(parts[1], names)
            self.step()
            for item in reversed(items[1]):
                self.step()
                told = self.go(parts[4], {**names, parts[2]: item, parts[3]: told})
            return told
        if word == "built":
            self.step()
            own = {parts[2]: lambda item: lambda rest: self.put(item, rest), parts[3]: ("list", ())}
            return self.go(parts[4], {**names, **own})
        if word == "rounds":
            told = self.go(parts[1], names)
            for turn in range(parts[0]):
                self.step()
                side, told = self.go(parts[3], {**names, parts[2]: told})
                if side == "right":
                    return told
            raise SlowFault
        if word == "right":
            return self.made(("right", self.go(parts[1], names)))
        if word == "left":
            return self.made(("left", self.go(parts[0], names)))
        worths = [self.go(part, names) for part in parts]
        if word == "first":
            return worths[0][1]
        if word == "second":
            return worths[0][2]
        return {
            "call": self.apply, "more": self.put, "plus": lambda one, other: self.number(one + other),
            "less": lambda one, other: one < other, "alike": lambda one, other: one == other,
            "pair": lambda one, other: self.made(("pair", one, other)),
        }[word](*worths)


def slow_run(term, args):
    """The outcome, or "too much"."""
    slow = SlowRun()
    try:
        told = slow.go(term, {})
        for worth in args:
            told = slow.apply(told, slow.handed(worth))
    except SlowFault:
        return ("fault", slow.steps)
    except SlowTooMuch:
        return "too much"
    return ("worth", told, slow.steps)


def slow_worths(kind, sizes, bound):
    """All worths in order, however many: what point 6 says, written down once more."""
    word = kind[0]
    if word == "open":
        return [("thing", kind[1], number) for number in range(dict(sizes).get(kind[1], 0))]
    if word == "num":
        return list(range(bound + 1))
    if word == "truth":
        return [False, True]
    inner = [slow_worths(part, sizes, bound) for part in kind[1:]]
    if word == "pair":
        return [("pair", one, other) for one, other in itertools.product(*inner)]
    if word == "either":
        return [("left", one) for one in inner[0]] + [("right", other) for other in inner[1]]
    if word == "list":
        return [("list", items) for length in range(bound + 1) for items in itertools.product(inner[0], repeat=length)]
    asked, told = inner
    return [("table", tuple(zip(asked, run))) for run in itertools.product(told, repeat=len(asked))]


def slow_tied(kind, setting, one, other):
    """Whether two worths of a kind are tied, by the kind."""
    word = kind[0]
    if word == "open" and "made" in (one[0], other[0]):
        return one == other
    if word == "open":
        return (one[2], other[2]) in {row[0]: row[3] for row in setting}.get(kind[1], ())
    if word in ("num", "truth"):
        return one == other
    if word == "pair":
        return all(slow_tied(kind[at], setting, one[at], other[at]) for at in (1, 2))
    if word == "either":
        return one[0] == other[0] and slow_tied(kind[1 + (one[0] == "right")], setting, one[1], other[1])
    if word == "list":
        return len(one[1]) == len(other[1]) and all(slow_tied(kind[1], setting, *two) for two in zip(one[1], other[1]))
    return all(slow_told(kind[2], setting, told, telling)
               for asked, told in one[1] for asking, telling in other[1] if slow_tied(kind[1], setting, asked, asking))


def slow_told(kind, setting, one, other):
    if ("fault",) in (one, other):
        return one == other
    return slow_tied(kind, setting, one, other)


def arguments(kind):
    found = []
    while kind[0] == "fun":
        found.append(kind[1])
        kind = kind[2]
    return found


def slow_cases(kind, setting, bound):
    """All cases in order, however many."""
    lefts = tuple((row[0], row[1]) for row in setting)
    rights = tuple((row[0], row[2]) for row in setting)
    sides = []
    for argument in arguments(kind):
        both = itertools.product(slow_worths(argument, lefts, bound), slow_worths(argument, rights, bound))
        sides.append([two for two in both if slow_tied(argument, setting, *two)])
    return list(itertools.product(*sides))


def things_in(worth):
    """The things in a data worth, in reading order."""
    if not isinstance(worth, tuple):
        return []
    if worth[0] == "thing":
        return [worth]
    inner = worth[1] if worth[0] == "list" else worth[1:]
    return [thing for part in inner for thing in things_in(part)]


def is_numbered(things, looked):
    """Whether the things are numbered as a try's are."""
    came = {}
    for word, x, number in things:
        many = came.get(x, 0)
        if number != many and not (x in looked and number < many):
            return False
        came[x] = max(many, number + 1)
    return True


def slow_tries(kind, looked, bound, most):
    """All tries, however many, of a kind whose data arguments have at most so many things of a name."""
    kinds = arguments(kind)
    names = sorted({name for argument in kinds for name in open_names(argument)})
    sizes = tuple((name, most) for name in names)
    data = [slow_worths(argument, sizes, bound) for argument in kinds if argument[0] != "fun"]
    found = []
    for worths in itertools.product(*data):
        things = [thing for worth in worths for thing in things_in(worth)]
        if is_numbered(things, looked):
            came = tuple((name, len({thing for thing in things if thing[1] == name})) for name in names)
            found.extend(slow_handed(kinds, worths, came, bound))
    return found


def slow_handed(kinds, worths, sizes, bound):
    waiting = list(worths)
    choices = []
    for number, argument in enumerate(kinds):
        if argument[0] != "fun":
            choices.append([waiting.pop(0)])
        elif last_of(argument)[0] == "open":
            choices.append([("maker", number, len(arguments(argument)))])
        else:
            choices.append(slow_worths(argument, sizes, bound))
    return itertools.product(*choices)


def last_of(kind):
    while kind[0] == "fun":
        kind = kind[2]
    return kind


def open_names(kind):
    if kind[0] == "open":
        return {kind[1]}
    return {name for part in kind[1:] for name in open_names(part)}
