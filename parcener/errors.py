"""The errors with which parcener refuses what it is told."""


class Refused(ValueError):
    """What all errors of this program have in common."""


class BadFact(Refused):
    """The facts are not in order at this index."""

    def __init__(self, at):
        self.at = at


class Circular(Refused):
    """This person is among its own descendants."""

    def __init__(self, name):
        self.name = name


class BadRules(Refused):
    """The book of rules is not in order; why names the part of it."""

    def __init__(self, why):
        self.why = why


class BadWill(Refused):
    """The will is not in order at this index."""

    def __init__(self, at):
        self.at = at


class BadEstate(Refused):
    """The estate is not in order; why names the part of it."""

    def __init__(self, why):
        self.why = why


class BadPaper(Refused):
    """The judge does not accept the paper; why is a text for readers."""

    def __init__(self, why):
        self.why = why
