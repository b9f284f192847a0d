"""Names that are used nowhere, for builts' own ones."""

from kindalone.plain import LETTERS

# New names begin so: a plain letter is likelier to be looked at by a caller, which is not seen everywhere.
NEW_NAME = "own"


class Unused:
    """Tells names that are not among the taken ones, each once."""

    def __init__(self, taken):
        self.taken_names = {name: True for name in taken}
        self.number = 0

    def another(self):
        """A name that is not taken and was not told."""
        while new_name(self.number) in self.taken_names:
            self.number += 1
        name = new_name(self.number)
        self.number += 1
        return name


def new_name(number):
    """The new name of this number, each another one."""
    letters = ""
    rest = number
    while rest > 0:
        rest -= 1
        letters = LETTERS[rest % 26] + letters
        rest = rest // 26
    return NEW_NAME + letters
