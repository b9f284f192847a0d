"""Which names count where in a term, and their kinds."""

from kindalone.checking import kind_at


def names_within(term, at, names, looked):
    """The kinds of the names that count in the term at this place of a term's tuple; names has those around it."""
    word = term[0]
    settled = (looked, ())
    if word == "fun":
        return {**names, term[1]: term[2]}
    if word == "built":
        end = ("open", term[2])
        return {**names, term[3]: ("fun", term[1], ("fun", end, end)), term[4]: end}
    if word == "case" and at > 1:
        sides = kind_at(term[1], names, settled)
        return {**names, term[2]: sides[1]} if at == 3 else {**names, term[4]: sides[2]}
    if word == "fold" and at == 5:
        items = kind_at(term[1], names, settled)
        return {**names, term[3]: items[1], term[4]: kind_at(term[2], names, settled)}
    if word == "rounds" and at == 4:
        return {**names, term[3]: kind_at(term[2], names, settled)}
    return names
