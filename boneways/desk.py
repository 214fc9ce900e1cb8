"""A desk (point 14.4): a house that is told lines, and answers with texts."""

from boneways.deeds import log_text, read_deed
from boneways.errors import BadDeed, BadText, NothingDone
from boneways.house import House
from boneways.kept import is_deed
from boneways.texts import cells_text, picture_text, read_cells


class Desk:
    """A desk with the house of a picture."""

    def __init__(self, picture):
        self.home = House(picture)

    def house(self):
        """The house itself."""
        return self.home

    def say(self, line):
        """The answer to a line, any value."""
        if not isinstance(line, str):
            return "what"
        try:
            return answer_to(self.home, line)
        except NothingDone:
            return "refused"
        except (BadText, BadDeed):
            return "what"


def answer_to(house, line):
    """What a house answers to a text; BadText or BadDeed if it says nothing."""
    shown = shown_by(house, line)
    if shown is not None:
        return shown
    if line == "undo":
        return str(house.undo())
    if line == "redo":
        return str(house.redo())
    if line.startswith("blot "):
        return str(house.blot(read_cells(line[5:])))
    if line.startswith("effect "):
        return effect_text(house, read_deed(line[7:]))
    return str(house.do(read_deed(line)))


def shown_by(house, line):
    """What a house shows by itself when it is asked by a word, None for all other lines."""
    if line == "picture":
        return picture_text(house.picture())
    if line == "cells":
        return cells_text(house.picture())
    if line == "simple":
        return cells_text(house.simple())
    if line == "addable":
        return cells_text(house.addable())
    if line == "log":
        return log_text(house.deeds()) or "nothing"
    if line == "counts":
        many, holes, number = house.counts()
        return f"pieces {many} holes {holes} euler {number}"
    if line == "kept":
        return "yes" if house.kept() else "no"
    if line == "torn":
        torn = house.torn()
        return "none" if torn is None else str(torn)
    return None


def effect_text(house, deed):
    """The three numbers of the effect of a deed; BadDeed if it is none for the board."""
    if not is_deed(house.board(), deed):
        raise BadDeed()
    return " ".join([str(number) for number in house.effect_of(deed)])
