"""The refusals: each stands under KindError, none under another one."""


class KindError(ValueError):
    """Any refusal."""


class TooMany(KindError):
    """More worths, cases, tries or parts than are listed."""


class TooMuch(KindError):
    """A run that goes on too long, or makes something too great."""


class NoText(KindError):
    """What is not written as a kind, a term or a worth is."""


class NoKind(KindError):
    """A term that has no kind."""


class NoLead(KindError):
    """What is no lead of the term."""


class NoName(KindError):
    """No name, or none that stands."""


class Taken(KindError):
    """A name that stands already."""


class Ring(KindError):
    """A function that would use itself."""


class NoBack(KindError):
    """Deeds that were not done."""


class NoRow(KindError):
    """What a desk does not take."""


class Unbounded(KindError):
    """Tries without an end; argument is the number of the argument."""

    def __init__(self, argument):
        super().__init__(f"the tries have no end at argument {argument}")
        self.argument = argument


class Broken(KindError):
    """A function, by its name, that would have no kind."""

    def __init__(self, name):
        super().__init__(f"{name} would have no kind")
        self.name = name


class Used(KindError):
    """A function, by its name, that uses the one to be dropped."""

    def __init__(self, name):
        super().__init__(f"{name} uses it")
        self.name = name
