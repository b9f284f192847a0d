"""A desk's rows, read from texts: what stands where, within the bounds of what is handed in."""

from kindalone.bounds import MOST_BOUND, is_setting_within, is_term_within, is_worth_within
from kindalone.errors import NoRow, NoText
from kindalone.plain import is_rising
from kindalone.settings import is_setting
from kindalone.terms import is_term
from kindalone.texts import read_words

# The roles of what stands behind each row's first word; behind a run's name worths follow, however many.
ROW_FORMS = {
    "tell": ("word", "names", "term"),
    "retell": ("word", "names", "term"),
    "drop": ("word",),
    "back": ("number",),
    "run": ("word",),
    "says": ("word", "number", "setting"),
    "alike": ("word", "word", "number"),
}


def read_row(text):
    """The first word of a row, and a tuple of what stands behind it; NoRow of anything else."""
    if not isinstance(text, str):
        raise NoRow("no text")
    words = text.split(" ")
    word = words[0]
    if word not in ROW_FORMS:
        raise NoRow("no row begins so")
    try:
        parts = read_words(words[1:], ROW_FORMS[word], "worth" if word == "run" else None)
    except NoText:
        raise NoRow("not written as a row is") from None
    if word == "run":
        parts = [parts[0], tuple(parts[1:])]
    check = CHECKS[word]
    if not check(*parts):
        raise NoRow("beyond a bound, or not what is asked here")
    return word, tuple(parts)


def is_telling(name, looked, term):
    """Whether these are looked names and a term, within the bounds."""
    return is_rising(looked) and is_term(term) and is_term_within(term)


def is_naming(name):
    """Any word may be handed in as a name."""
    return True


def is_going_back(many):
    """Any number of deeds may be asked for."""
    return True


def is_running(name, worths):
    """Whether the worths are within the bounds."""
    return all(is_worth_within(worth) for worth in worths)


def is_saying(name, bound, setting):
    """Whether these are a bound and a setting, within the bounds."""
    return bound <= MOST_BOUND and is_setting(setting) and is_setting_within(setting)


def is_comparing(one, other, bound):
    """Whether this is a bound within the bounds."""
    return bound <= MOST_BOUND


CHECKS = {
    "tell": is_telling,
    "retell": is_telling,
    "drop": is_naming,
    "back": is_going_back,
    "run": is_running,
    "says": is_saying,
    "alike": is_comparing,
}
