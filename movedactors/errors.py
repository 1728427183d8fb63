"""The errors that the package raises."""


class ActorsError(ValueError):
    """What was passed is wrong, or cannot be done."""


class BadPaper(ActorsError):
    """A history, a life or a paper is not what it has to be."""


class BadMeaning(ActorsError):
    """The tables of a meaning have a wrong form."""


class BadControl(ActorsError):
    """What was passed is not a control of the edition."""


class BadWords(ActorsError):
    """What was passed is not a marking of the marks."""


class NotNow(ActorsError):
    """What is asked for cannot happen here."""


class MixedEditions(ActorsError):
    """Two editions do not belong together."""


class NotClosable(ActorsError):
    """A role is not alike in the change."""

    def __init__(self, role):
        ActorsError.__init__(self, "the role is not alike")
        self.role = role


class BadTerm(ActorsError):
    """A term has a wrong part."""

    def __init__(self, path):
        ActorsError.__init__(self, "the term has a wrong part")
        self.path = path


class BadBook(ActorsError):
    """A book has a wrong part."""

    def __init__(self, path):
        ActorsError.__init__(self, "the book has a wrong part")
        self.path = tuple(path)


class BadEdition(ActorsError):
    """An edition has a wrong part."""

    def __init__(self, path):
        ActorsError.__init__(self, "the edition has a wrong part")
        self.path = tuple(path)


class BadChange(ActorsError):
    """A change has a wrong part."""

    def __init__(self, path):
        ActorsError.__init__(self, "the change has a wrong part")
        self.path = tuple(path)


class BadText(ActorsError):
    """A text has a wrong place."""

    def __init__(self, place):
        ActorsError.__init__(self, "the text has a wrong place")
        self.place = place


class BadSystem(ActorsError):
    """A part of a system is wrong."""

    def __init__(self, word):
        ActorsError.__init__(self, "a part of the system is wrong")
        self.word = word


class NotTurned(ActorsError):
    """A change does more than rename."""

    def __init__(self, name):
        ActorsError.__init__(self, "the change cannot be turned")
        self.name = name


class TooLong(ActorsError):
    """A term is greater than the limit."""

    def __init__(self, limit):
        ActorsError.__init__(self, "a term is too long")
        self.limit = limit


class NameMissing(LookupError):
    """Something that is asked for does not exist."""


class UnknownName(NameMissing):
    """There is nothing of this name."""

    def __init__(self, name):
        NameMissing.__init__(self, "there is nothing of this name")
        self.name = name


class NotThere(NameMissing):
    """The joint control is not reached."""

    def __init__(self, pair):
        NameMissing.__init__(self, "the joint control is not reached")
        self.pair = pair


class NoControl(NameMissing):
    """The control is not one of those that are meant."""

    def __init__(self, control):
        NameMissing.__init__(self, "there is no such control")
        self.control = control


class NoActor(NameMissing):
    """The address has no such actor."""

    def __init__(self, address):
        NameMissing.__init__(self, "there is no such actor")
        self.address = address
