"""The interface's own examples, word for word (examples.txt): each >>> line, and below it what comes."""

import ast
import unittest
from pathlib import Path

from boneways.errors import BadText

PROMPT = ">>> "


def told_examples():
    """The pairs of a line behind >>> and the text below it, "" if there is none."""
    pairs = []
    for line in (Path(__file__).parent / "examples.txt").read_text().splitlines():
        if line.startswith(PROMPT):
            pairs.append([line[len(PROMPT):], ""])
        elif line and not line.startswith("#"):
            pairs[-1][1] += line
    return pairs


class Examples(unittest.TestCase):
    def test_each_example(self):
        names = {}
        for source, told in told_examples():
            with self.subTest(source=source):
                if told.startswith("raises BadText("):
                    with self.assertRaises(BadText) as caught:
                        eval(source, names)
                    self.assertEqual(f"raises BadText({caught.exception.place})", told)
                elif told:
                    # By repr too, so that no True goes for 1.
                    self.assertEqual(repr(eval(source, names)), repr(ast.literal_eval(told)))
                else:
                    exec(source, names)

    def test_there_are_examples_for_each_file(self):
        text = (Path(__file__).parent / "examples.txt").read_text()
        for name in ("pictures", "texts", "pieces", "tree", "simple", "lots", "rules", "ruletexts", "judging", "runs",
                     "webs", "shapes", "boxes", "sizes", "rims", "turning", "changes", "moves", "kept", "pages",
                     "deeds", "house", "desk"):
            self.assertIn(f"from boneways.{name} import", text)


if __name__ == "__main__":
    unittest.main()
