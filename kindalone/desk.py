"""A desk: a stand that is asked by rows, and answers by texts."""

from kindalone.bounds import MOST_DEEDS, MOST_FUNCTIONS
from kindalone.errors import NoRow, TooMany, TooMuch, Unbounded
from kindalone.handing import are_arguments
from kindalone.kinds import is_walked, opens_in
from kindalone.parting import parted
from kindalone.rows import read_row
from kindalone.running import run
from kindalone.showing import shown
from kindalone.stands import Stand
from kindalone.wholes import with_owns
from kindalone.worthtexts import show_worth

DONE = "ok"


class Desk:
    """Has a stand, and is told rows."""

    def __init__(self):
        self.stand = Stand()

    def say(self, text):
        """What a row is answered; NoRow of anything else, and what the stand refuses."""
        word, parts = read_row(text)
        answer = ANSWERS[word]
        stand = self.stand
        try:
            return answer(stand, *parts)
        except TooMany:
            return "too many"
        except TooMuch:
            return "too much"


def need_row(held, why):
    """NoRow where something does not hold that a row asks."""
    if not held:
        raise NoRow(why)


def need_deed(stand):
    """NoRow where a deed would be one too many."""
    need_row(stand.deeds() < MOST_DEEDS, f"more than {MOST_DEEDS} deeds")


def need_walked(stand, name):
    """NoRow where a function stands that has no walked kind; one that does not stand is the stand's to refuse."""
    need_row(name not in stand.names() or is_walked(stand.kind(name)), "no walked kind")


def answer_tell(stand, name, looked, term):
    """Brings a function."""
    need_deed(stand)
    need_row(len(stand.names()) < MOST_FUNCTIONS, f"more than {MOST_FUNCTIONS} functions")
    stand.tell(name, looked, term)
    return DONE


def answer_retell(stand, name, looked, term):
    """Gives a function another term and looks."""
    need_deed(stand)
    stand.retell(name, looked, term)
    return DONE


def answer_drop(stand, name):
    """Takes a function away."""
    need_deed(stand)
    stand.drop(name)
    return DONE


def answer_back(stand, many):
    """Takes the stand back."""
    stand.back(many)
    return DONE


def answer_run(stand, name, worths):
    """Runs a function with its arguments."""
    need_walked(stand, name)
    need_row(are_arguments(stand.kind(name), worths, False), "no worths of the arguments")
    outcome = run(stand.whole(name), worths)
    return "fault" if outcome[0] == "fault" else show_worth(outcome[1])


def answer_says(stand, name, bound, setting):
    """Shows a function case by case."""
    need_walked(stand, name)
    names = [row[0] for row in setting]
    need_row(all(asked in names for asked in opens_in(stand.kind(name))), "a setting without a name of the kind's")
    told = shown(stand.whole(name), stand.looked(name), setting, bound)
    return "fails" if told[0] == "fails" else f"holds {len(told[1])}"


def answer_alike(stand, one, other, bound):
    """Holds two functions against each other, by both's looks."""
    need_walked(stand, one)
    need_walked(stand, other)
    need_row(stand.kind(one) == stand.kind(other), "unlike kinds")
    looked = tuple(sorted(set([*stand.looked(one), *stand.looked(other)])))
    wholes = [with_owns(stand.whole(name), looked) for name in (one, other)]
    try:
        told = parted(wholes[0], wholes[1], looked, bound)
    except Unbounded as refusal:
        return f"unbounded {refusal.argument}"
    return "alike" if told is None else "parted"


ANSWERS = {
    "tell": answer_tell,
    "retell": answer_retell,
    "drop": answer_drop,
    "back": answer_back,
    "run": answer_run,
    "says": answer_says,
    "alike": answer_alike,
}
