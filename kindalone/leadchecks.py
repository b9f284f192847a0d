"""Papers of leads, checked."""

from kindalone.errors import NoLead
from kindalone.filling import put_in
from kindalone.leads import led_by
from kindalone.plain import is_same
from kindalone.terms import TERM_FORMS


def leads_holds(one, other, looked, thing):
    """Whether thing, of anything, is a paper of leads from one term to another one."""
    if not isinstance(thing, tuple):
        return False
    told = one
    try:
        for lead in thing:
            told = led_by(told, looked, lead)
    except NoLead:
        return False
    return is_same(numbered_owns(told, {}, 0), numbered_owns(other, {}, 0))


def numbered_owns(term, put, deep):
    """The term with builts' own names told by how deep they stand: which names they are is then no matter."""
    word = term[0]
    within = put
    deeper = deep
    parts = list(term)
    if word == "built":
        within = {**put, term[2]: ("own", deep)}
        deeper = deep + 1
        parts[2] = deep
    for at, role in enumerate(TERM_FORMS[word], 1):
        if role == "term":
            parts[at] = numbered_owns(term[at], within, deeper)
        if role in ("data", "argument"):
            parts[at] = put_in(term[at], put)
    return tuple(parts)
