"""The texts of deeds and of logs (point 14.1)."""

from boneways.errors import BadText
from boneways.texts import behind, cells_text, pair_at, signs_alike

MOST_DIGITS = 60

# The words of deeds, each with the sign between its two integers.
SIGNS = {"strike": ",", "add": ",", "shift": " "}


def deed_text(deed):
    """The text of a deed."""
    if deed[0] == "shift":
        return f"shift {deed[1]} {deed[2]}"
    return f"{deed[0]} {cells_text(deed[1:])}"


def log_text(deeds):
    """The text of a log, a deed a line."""
    return "\n".join([deed_text(deed) for deed in deeds])


def read_deed(text):
    """The deed that is written so; BadText for all else."""
    if not isinstance(text, str):
        raise BadText(0)
    deed, at = deed_at(text, 0)
    if at < len(text):
        raise BadText(at)
    return deed


def read_log(text):
    """The tuple of the deeds that are written so; BadText for all else."""
    if not isinstance(text, str):
        raise BadText(0)
    if text == "":
        return ()
    deed, at = deed_at(text, 0)
    deeds = [deed]
    while at < len(text):
        deed, at = deed_at(text, behind(text, at, "\n"))
        deeds.append(deed)
    return tuple(deeds)


def deed_at(text, at):
    """The deed at this place of a text, and the place behind it."""
    for word, sign in SIGNS.items():
        start = at + len(word) + 1
        if text[at:start] == word + " ":
            one, other, end = pair_at(text, start, sign, MOST_DIGITS)
            return (deed_with(word, one, other), end)
    raise BadText(at + max([signs_alike(text[at:], word + " ") for word in SIGNS]))


def deed_with(word, one, other):
    """The deed with this word and these integers."""
    return (word, one, other) if word == "shift" else (word, (one, other))
