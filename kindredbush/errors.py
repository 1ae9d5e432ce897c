"""The errors of the package. What they are made with stands in their attributes."""


class KinError(ValueError):
    """A value that is not as it must be."""


class UnlikeGroves(KinError):
    """Groves that differ in their bags or in their roots."""


class TooGreat(KinError):
    """An answer that would be too great."""


class NothingDone(KinError):
    """No act that could be undone or redone."""


class BadTable(KinError):
    """A table that lacks what is asked for, with the word and the value that tell why."""

    def __init__(self, word, value):
        self.word = word
        self.value = value


class BadFits(KinError):
    """What is no table, with the path of its first wrong part."""

    def __init__(self, path):
        self.path = tuple(path)


class BadLadder(KinError):
    """What is no ladder, with the path of its first wrong part."""

    def __init__(self, path):
        self.path = tuple(path)


class BadBag(KinError):
    """What is no bag, with the path of its first wrong part."""

    def __init__(self, path):
        self.path = tuple(path)


class BadGrove(KinError):
    """What is no grove, with the path of its first wrong part."""

    def __init__(self, path):
        self.path = tuple(path)


class BadAssembly(KinError):
    """What is no assembly, with the path of its first wrong part."""

    def __init__(self, path):
        self.path = tuple(path)


class BadKinds(KinError):
    """What are no kinds, with the path of the first wrong part."""

    def __init__(self, path):
        self.path = tuple(path)


class BadDeed(KinError):
    """A deed that cannot be done, with its number."""

    def __init__(self, number):
        self.number = number


class BadText(KinError):
    """A text that is not of its form, with its first wrong place."""

    def __init__(self, place):
        self.place = place


class Unbuilt(KinError):
    """Joints that cannot be put together, with the word and the value that tell why."""

    def __init__(self, word, value):
        self.word = word
        self.value = value


class BadAct(KinError):
    """What is no act, with the word that tells why."""

    def __init__(self, word):
        self.word = word


class NameMissing(LookupError):
    """Something that was looked up and is not there."""


class UnknownName(NameMissing):
    """A value that names nothing where it was looked up."""

    def __init__(self, name):
        self.name = name
