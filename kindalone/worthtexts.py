"""Worths as texts: by their form alone, made ones and makers too."""

from kindalone.texts import read, written


def show_worth(worth):
    """The text of a worth."""
    return written(worth, "worth")


def read_worth(text):
    """The worth that has this text; NoText of anything else."""
    return read(text, "worth")
