"""A house (points 14.2 and 14.3): a board that stands, and what it shows."""

from boneways.kept import addable_now, done, effect, first_torn, is_kept, new_board, redone, simple_now, undone
from boneways.pages import letters_of
from boneways.pieces import pieces


class House:
    """A house with the board of a picture. A board is never changed, but another one stands in its place."""

    def __init__(self, picture):
        self.standing = new_board(picture)

    def board(self):
        """The board that stands."""
        return dict(self.standing)

    def do(self, deed):
        """Does a deed, any value, and tells how many are done then; BadDeed if it is none."""
        self.standing = done(self.standing, deed)
        return len(self.deeds())

    def undo(self):
        """Takes the last deed back, and tells how many are done then; NothingDone if there is none."""
        self.standing = undone(self.standing)
        return len(self.deeds())

    def redo(self):
        """Does the last deed taken back again, and tells how many are done then; NothingDone if there is none."""
        self.standing = redone(self.standing)
        return len(self.deeds())

    def deeds(self):
        """The tuple of the deeds done."""
        return self.standing["log"]

    def twin(self):
        """A house that stands alike, and goes its own way."""
        other = House(())
        other.standing = self.standing
        return other

    def blot(self, cells):
        """Adds each of the cells that is white then, in order, and tells how many were."""
        ahead = len(self.deeds())
        for cell in cells:
            if cell not in self.picture():
                self.do(("add", cell))
        return len(self.deeds()) - ahead

    def picture(self):
        """The picture of the board."""
        return self.standing["picture"]

    def counts(self):
        """How many pieces and holes there are, and Euler's number."""
        many = len(pieces(self.picture()))
        number = self.standing["euler"]
        # Holes are not looked for: however far apart the cells are, their number is known.
        return (many, many - number, number)

    def kept(self):
        """Whether all deeds done kept pieces and holes, each by itself."""
        return is_kept(self.standing)

    def torn(self):
        """The number of the first deed that did not, None if there is none."""
        return first_torn(self.standing)

    def simple(self):
        """The simple cells."""
        return simple_now(self.standing)

    def addable(self):
        """The cells that may be added."""
        return addable_now(self.standing)

    def effect_of(self, deed):
        """How much the numbers of pieces, of holes, and of pieces less holes rise by a deed."""
        return effect(self.standing, deed)

    def letters(self):
        """The letters of the picture."""
        return letters_of(self.picture())
