"""boneways/errors.py, and of [0.2] that errors keep copies."""

import unittest

from boneways import errors
from boneways.errors import BadDeed, BadPaper, BadRule, BadText, BoneError, NothingDone, NoWay, TooMany
from tests.plain import ODD_VALUES, nested

TELLING = ((BadText, "place"), (BadRule, "word"), (BadPaper, "word"))
SILENT = (BadDeed, NoWay, TooMany, NothingDone)


class Errors(unittest.TestCase):
    def test_all_stand_directly_beneath_bone_error(self):
        self.assertEqual(BoneError.__bases__, (ValueError,))
        for kind in [kind for kind, _ in TELLING] + list(SILENT):
            self.assertEqual(kind.__bases__, (BoneError,))
            self.assertEqual(kind.__module__, errors.__name__)

    def test_silent_ones_are_made_of_nothing(self):
        for kind in SILENT:
            with self.assertRaises(kind):
                raise kind()

    def test_what_is_told_stands_as_an_attribute(self):
        for kind, name in TELLING:
            for value in ODD_VALUES + (nested(40), "a" * 200):
                self.assertEqual(repr(getattr(kind(value), name)), repr(value))

    def test_lists_and_dicts_are_copies_however_deep(self):
        for kind, name in TELLING:
            inner = [1, {"a": [2]}]
            value = (0, [inner, {"b": ({"c": inner},)}])
            kept = getattr(kind(value), name)
            self.assertEqual(kept, value)
            before = repr(kept)
            inner[1]["a"].append(3)
            inner.append(4)
            value[1].append(5)
            value[1][1]["d"] = 6
            self.assertEqual(repr(kept), before)

    def test_what_is_kept_may_be_changed_without_the_argument(self):
        value = [[1], {"a": [2]}]
        error = BadRule(value)
        error.word[0].append(9)
        error.word[1]["a"].append(9)
        self.assertEqual(value, [[1], {"a": [2]}])


if __name__ == "__main__":
    unittest.main()
