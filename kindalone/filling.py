"""Kinds and terms filled: data kinds put in for open names."""

from kindalone.kinds import opens_in
from kindalone.terms import TERM_FORMS, all_parts, kinds_here, terms_in
from kindalone.unused import Unused


def filled_kind(kind, fills):
    """The kind with its data kind for each open name that fills tell."""
    return put_in(kind, dict(fills))


def put_in(kind, put):
    """The kind with what is put in for its open names."""
    if kind[0] == "open":
        return put.get(kind[1], kind)
    parts = [kind[0]]
    for part in kind[1:]:
        parts.append(put_in(part, put))
    return tuple(parts)


def filled_term(term, fills):
    """The term with all its kinds filled; builts' own names stay, but those in a kind that is put in."""
    free = free_opens(term)
    arriving = [name for free_name, kind in fills if free_name in free for name in opens_in(kind)]
    taken = names_in(term)
    for name, kind in fills:
        taken.extend([name, *opens_in(kind)])
    return filled(term, dict(fills), new_names(own_names(term), arriving, Unused(taken)))


def free_opens(term):
    """The open names in a term's kinds that stand for no built's own name."""
    found = []
    waiting = [(term, ())]
    while waiting:
        part, own = waiting.pop()
        found.extend([name for name in opens_here(part) if name not in own])
        # A built's data kind stands outside of where its own name counts.
        within = (*own, part[2]) if part[0] == "built" else own
        waiting.extend([(inner, within) for inner in terms_in(part)])
    return found


def opens_here(term):
    """The open names in the kinds that a term itself has."""
    return [name for kind in kinds_here(term) for name in opens_in(kind)]


def own_names(term):
    """The own names of all builts in a term."""
    return [part[2] for part in all_parts(term) if part[0] == "built"]


def names_in(term):
    """All names in a term, whatever they stand for."""
    names = []
    for part in all_parts(term):
        names.extend(opens_here(part))
        for role, piece in zip(TERM_FORMS[part[0]], part[1:]):
            if role == "name":
                names.append(piece)
            if role == "fills":
                names.extend([name for name, kind in piece])
    return names


def new_names(own, arriving, unused):
    """An unused name for each own name that is among the arriving ones."""
    renamed = {}
    for name in own:
        if name in arriving and name not in renamed:
            renamed[name] = unused.another()
    return renamed


def filled(term, put, renamed):
    """The term with what is put in for open names; renamed tells the new ones of builts' own names."""
    if term[0] == "built":
        return filled_built(term, put, renamed)
    parts = [term[0]]
    for role, part in zip(TERM_FORMS[term[0]], term[1:]):
        parts.append(filled_part(role, part, put, renamed))
    return tuple(parts)


def filled_part(role, part, put, renamed):
    """A part of a term, by its role, with what is put in."""
    if role == "term":
        return filled(part, put, renamed)
    if role in ("data", "argument"):
        return put_in(part, put)
    if role == "fills":
        return tuple((name, put_in(kind, put)) for name, kind in part)
    return part


def filled_built(term, put, renamed):
    """A built with what is put in, but for its own name."""
    word, data, own, x, y, inner = term
    name = renamed.get(own, own)
    within = {**put, own: ("open", name)}
    return (word, put_in(data, put), name, x, y, filled(inner, within, renamed))
