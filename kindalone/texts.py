"""Kinds, terms and worths as words with one blank between: what stands where, writing and reading.

Each word of a text has a role: it is a name, a number, or the first word of a kind, a term, a worth. A word and its
role tell the roles of what comes behind it, so that a text has but one meaning, whatever words the names in it are.
"""

from kindalone.errors import NoText
from kindalone.kinds import KIND_FORMS
from kindalone.plain import is_name
from kindalone.terms import TERM_FORMS

# What stands behind each word of a worth; numbers and truths are but themselves.
WORTH_FORMS = {
    "thing": ("name", "number"),
    "pair": ("worth", "worth"),
    "left": ("worth",),
    "right": ("worth",),
    "list": ("items",),
    "table": ("rows",),
    "made": ("number", "items"),
    "maker": ("number", "number"),
}
# What is written by how many, and the roles of each of these.
COUNTED = {
    "fills": ("name", "kind"),
    "items": ("worth",),
    "rows": ("worth", "answer"),
    "names": ("name",),
    "setting": ("name", "number", "number", "pairs"),
    "pairs": ("number", "number"),
}
FIGURES = "0123456789"


def written(thing, role):
    """The text of what has this role."""
    words = []
    waiting = [(role, thing)]
    while waiting:
        asked, part = waiting.pop()
        words.append(word_of(part, asked))
        waiting.extend(list(reversed(parts_behind(part, asked))))
    return " ".join(words)


def word_of(part, role):
    """The first word of what has this role."""
    if role in COUNTED:
        return str(len(part))
    if isinstance(part, bool):
        return "yes" if part else "no"
    if isinstance(part, tuple):
        return part[0]
    return str(part)


def parts_behind(part, role):
    """What comes behind the first word, each with its role ahead."""
    if role in COUNTED:
        roles = COUNTED[role]
        if len(roles) == 1:
            return [(roles[0], item) for item in part]
        return [both for row in part for both in zip(roles, row)]
    if isinstance(part, tuple):
        return list(zip(form_of(role, part[0]), part[1:]))
    return []


def form_of(role, word):
    """The roles of the parts behind a word that begins what has this role; None where it begins no such thing."""
    if role == "term":
        return TERM_FORMS.get(word)
    if role in ("kind", "data", "argument"):
        return KIND_FORMS.get(word)
    # A table may tell a fault, which is no worth.
    if role == "answer" and word == "fault":
        return ()
    if role in ("worth", "answer"):
        return WORTH_FORMS.get(word)
    return None


def read(text, role):
    """What the text, of anything, is written of, which has this role; NoText where it is not so written."""
    if not isinstance(text, str):
        raise NoText("no text")
    return read_words(text.split(" "), (role,), None)[0]


def read_words(words, first, again):
    """What the words are written of, one behind the other: of the first roles, then, where there is one, of another.

    NoText where they are not so written.
    """
    if len(first) > len(words):
        raise NoText("the end is missing")
    waiting = list(first[::-1])
    roles = []
    for at, word in enumerate(words):
        if not waiting:
            waiting.append(again)
        asked = waiting.pop()
        roles.append(asked)
        left = len(words) - at - 1
        waiting.extend(list(reversed(roles_behind(word, asked, left))))
        # Each role takes a word at least: a number in the text is not to make the roles more than its words.
        if len(waiting) > left:
            raise NoText("the end is missing")
    return put_together(words, roles)


def roles_behind(word, role, left):
    """The roles of what comes behind a word of this role, with so many words left; NoText where it has not the role."""
    if role is None:
        raise NoText("words behind the end")
    if role in COUNTED:
        if not is_figures(word) or int(word) > left:
            raise NoText("this is not how many follow")
        return COUNTED[role] * int(word)
    if is_single(word, role):
        return ()
    form = form_of(role, word)
    if form is None:
        raise NoText("a word that does not go here")
    return form


def is_single(word, role):
    """Whether a word is by itself what has this role."""
    if role == "name":
        return is_name(word)
    if role == "word":
        return word != ""
    if role in ("number", "turns"):
        return is_figures(word)
    if role == "truth":
        return word in ("yes", "no")
    return role in ("worth", "answer") and (is_figures(word) or word in ("yes", "no"))


def is_figures(word):
    """Whether a word is a whole number in figures, without noughts ahead."""
    if not word or not all(sign in FIGURES for sign in word):
        return False
    return word == "0" or word[0] != "0"


def put_together(words, roles):
    """What the words are written of, in order: from the last one on, each takes what was put together behind it."""
    done = []
    for word, role in reversed(list(zip(words, roles))):
        if is_single(word, role):
            done.append(single(word, role))
        else:
            many = len(roles_behind(word, role, len(words)))
            parts = done[len(done) - many:][::-1]
            del done[len(done) - many:]
            done.append(joined(word, role, parts))
    return done[::-1]


def single(word, role):
    """What a word by itself stands for."""
    if role in ("name", "word"):
        return word
    if word in ("yes", "no"):
        return word == "yes"
    return int(word)


def joined(word, role, parts):
    """What a word stands for, with its parts."""
    if role not in COUNTED:
        return (word, *parts)
    many = len(COUNTED[role])
    if many == 1:
        return tuple(parts)
    return tuple(tuple(parts[at:at + many]) for at in range(0, len(parts), many))
