"""Kinds as texts."""

from kindalone.errors import NoText
from kindalone.kinds import is_kind
from kindalone.texts import read, written


def show_kind(kind):
    """The text of a kind."""
    return written(kind, "kind")


def read_kind(text):
    """The kind that has this text; NoText of anything else."""
    kind = read(text, "kind")
    if not is_kind(kind):
        raise NoText("an argument that is neither a data nor a first kind")
    return kind
