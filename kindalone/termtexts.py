"""Terms as texts."""

from kindalone.errors import NoText
from kindalone.terms import is_term
from kindalone.texts import read, written


def show_term(term):
    """The text of a term."""
    return written(term, "term")


def read_term(text):
    """The term that has this text; NoText of anything else."""
    term = read(text, "term")
    if not is_term(term):
        raise NoText("words of a term, but no term")
    return term
