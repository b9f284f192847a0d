"""Stands: functions by names, that may use one another.

A stand's row is (looked, term, kind, whole, times): its looked names, its term as it was told, its kind, its whole, and
how often this was made. Rows are never changed: each deed has rows of its own, so that back finds what stood then.
"""

from kindalone.checking import kind_of
from kindalone.errors import Broken, NoBack, NoKind, NoName, Ring, Taken, Used
from kindalone.kinds import leads, opens_in
from kindalone.plain import is_name, is_number
from kindalone.terms import is_term
from kindalone.wholes import uses_of, whole_of


class Stand:
    """Keeps functions by their names, in the order they came."""

    def __init__(self):
        self.states = [{}]

    def tell(self, name, looked, term):
        """Brings a function, and tells its kind; NoName, Taken, NoKind, TooMany."""
        rows = self.states[-1]
        if not is_name(name):
            raise NoName("no name")
        if name in rows:
            raise Taken(f"{name} stands already")
        kind = told_kind(looked, term, rows)
        row = (looked, term, kind, whole_of(term, looked, wholes_in(rows)), 1)
        self.states.append({**rows, name: row})
        return kind

    def retell(self, name, looked, term):
        """Gives a function another term and looks, and tells its kind; NoName, Ring, NoKind, Broken, TooMany."""
        rows = self.states[-1]
        need_standing(name, rows)
        if is_term(term) and would_reach(uses_of(term), name, rows):
            raise Ring(f"{name} would use itself")
        kind = told_kind(looked, term, rows)
        anew = {**rows, name: (looked, term, kind, *rows[name][3:])}
        changed = using_order(name, anew)
        anew = with_kinds(anew, changed[1:])
        self.states.append(with_wholes_anew(anew, changed))
        return kind

    def drop(self, name):
        """Takes a function away; NoName, Used."""
        rows = self.states[-1]
        need_standing(name, rows)
        for other in rows:
            if name in uses_of(rows[other][1]):
                raise Used(other)
        self.states.append({other: rows[other] for other in rows if other != name})

    def back(self, many):
        """Takes the stand to what it was behind its first so many deeds; NoBack."""
        if not is_number(many) or many >= len(self.states):
            raise NoBack("so many deeds were not done")
        self.states = self.states[:many + 1]

    def deeds(self):
        """How many deeds were done."""
        return len(self.states) - 1

    def names(self):
        """The names of the functions, in the order they came."""
        return tuple(self.states[-1])

    def kind(self, name):
        """The kind of a function; NoName."""
        return need_standing(name, self.states[-1])[2]

    def looked(self, name):
        """The looked names of a function; NoName."""
        return need_standing(name, self.states[-1])[0]

    def whole(self, name):
        """The whole of a function; NoName."""
        return need_standing(name, self.states[-1])[3]

    def uses(self, name):
        """The functions that a function's term names, rising; NoName."""
        return uses_of(need_standing(name, self.states[-1])[1])

    def made(self, name):
        """How often the whole of a function was made; NoName."""
        return need_standing(name, self.states[-1])[4]


def need_standing(name, rows):
    """The row of a function; NoName where none of this name stands."""
    if not is_name(name) or name not in rows:
        raise NoName("none of this name stands")
    return rows[name]


def told_kind(looked, term, rows):
    """The kind of a function that may use those in the rows; NoKind where it may not stand."""
    known = tuple((name, rows[name][0], rows[name][2]) for name in sorted(rows))
    kind = kind_of(term, looked, known)
    if not leads(kind):
        raise NoKind("no function")
    if any(name not in opens_in(kind) for name in looked):
        raise NoKind("a looked name that is not in the kind")
    return kind


def wholes_in(rows):
    """The wholes of the functions in the rows."""
    return {name: rows[name][3] for name in rows}


def would_reach(used, name, rows):
    """Whether by using these, however far on, a function is reached."""
    seen = set()
    waiting = list(used)
    while waiting:
        other = waiting.pop()
        if other == name:
            return True
        if other in rows and other not in seen:
            seen.add(other)
            waiting.extend(uses_of(rows[other][1]))
    return False


def using_order(name, rows):
    """The function and those that reach it by using, each behind those of them that it uses."""
    uses = {other: uses_of(rows[other][1]) for other in rows}
    reaching = [other for other in rows if other == name or would_reach(uses[other], name, rows)]
    order = [name]
    while len(order) < len(reaching):
        for other in reaching:
            if other not in order and all(used in order or used not in reaching for used in uses[other]):
                order.append(other)
    return order


def with_kinds(rows, changed):
    """The rows with the kinds of the changed ones found anew; Broken with the first, in order, that has none."""
    # What has no kind is not there for those that use it, so that they have none either.
    found = {name: rows[name] for name in rows if name not in changed}
    for name in changed:
        looked, term, kind, whole, times = rows[name]
        try:
            found[name] = (looked, term, told_kind(looked, term, found), whole, times)
        except NoKind:
            pass
    for name in rows:
        if name not in found:
            raise Broken(name)
    return {name: found[name] for name in rows}


def with_wholes_anew(rows, changed):
    """The rows with the wholes of the changed ones made anew, each once; TooMany."""
    made = {name: rows[name] for name in rows}
    for name in changed:
        looked, term, kind, whole, times = rows[name]
        made[name] = (looked, term, kind, whole_of(term, looked, wholes_in(made)), times + 1)
    return made
