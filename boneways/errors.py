"""All errors of the package. What they tell stands in attributes, as copies."""

from boneways.values import copied


class BoneError(ValueError):
    """What all errors of the package have in common."""


class BadText(BoneError):
    """A text that cannot be read."""

    def __init__(self, place):
        self.place = copied(place)


class BadRule(BoneError):
    """A value that is no rule."""

    def __init__(self, word):
        self.word = copied(word)


class BadPaper(BoneError):
    """A paper that does not hold."""

    def __init__(self, word):
        self.word = copied(word)


class BadDeed(BoneError):
    """What is no deed for a board."""


class NoWay(BoneError):
    """There is no way."""


class TooMany(BoneError):
    """There is too much of something."""


class NothingDone(BoneError):
    """There is nothing to take back or to do again."""
