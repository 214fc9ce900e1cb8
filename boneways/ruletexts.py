"""The texts of conditions and of rules (point 5.6)."""

from boneways.errors import BadText
from boneways.rules import MOST_CLASSES, MOST_CODE, MOST_PASSES, NUMBER_LIMITS, parts_told
from boneways.texts import DIGITS, behind, signs_alike


def condition_text(condition):
    """The text of a condition, its parts in parentheses."""
    signs = []
    # What is still to be written, the next one last: signs as they are, and conditions.
    waiting = [condition]
    while waiting:
        item = waiting.pop()
        if isinstance(item, str):
            signs.append(item)
        else:
            signs.append(head_text(item))
            for part in reversed(parts_told(item)):
                waiting.extend([")", part, " ("])
    return "".join(signs)


def head_text(condition):
    """The word of a condition, and the integers behind it."""
    return " ".join([str(told) for told in condition if not isinstance(told, tuple)])


def rule_text(rule):
    """The text of a rule: its classes, and a line for each pass."""
    lines = [f"rule {rule[0]} {rule[1]}"]
    for tables in rule[2]:
        lines.append("pass" + "".join([table_text(table) for table in tables]))
    return "\n".join(lines)


def table_text(table):
    """The text of a table within the line of its pass."""
    return " :" + "".join([f" {code}" for code in table])


def read_condition(text):
    """The condition that is written so; BadText for all else."""
    if not isinstance(text, str):
        raise BadText(0)
    begun = []
    whole = None
    at = 0
    # No call within a call: a text may lead deeper than the calls of Python do.
    while whole is None:
        head, at = head_at(text, at)
        begun.append((head, []))
        whole, at = ended_at(text, at, begun)
    if at < len(text):
        raise BadText(at)
    return whole


def ended_at(text, at, begun):
    """Ends those of the conditions begun that end at this place of a text.

    What comes is the pair of the whole condition, None if a part begins, and the place behind.
    """
    while True:
        head, parts = begun[-1]
        if takes_part(text, at, head, parts):
            return (None, behind_word(text, at, " ("))
        begun.pop()
        condition = with_parts(head, parts)
        if len(begun) == 0:
            return (condition, at)
        at = behind(text, at, ")")
        begun[-1][1].append(condition)


def takes_part(text, at, head, parts):
    """Whether a condition with this head and these parts goes on with a part at this place of a text."""
    if head[0] in ("either", "both"):
        return text[at:at + 1] == " "
    return head[0] in ("turned", "some turn", "not") and len(parts) == 0


def with_parts(head, parts):
    """The condition with this head and these parts."""
    if head[0] in ("either", "both"):
        return (*head, tuple(parts))
    return (*head, *parts)


def head_at(text, at):
    """The tuple of a word and its integers at this place of a text, and the place behind them."""
    for word, limits in NUMBER_LIMITS.items():
        # No word begins another one.
        if text[at:at + len(word)] == word:
            return numbers_at(text, at + len(word), word, limits)
    raise BadText(at + max(signs_alike(text[at:], word) for word in NUMBER_LIMITS))


def numbers_at(text, at, word, limits):
    """The tuple of a word and the integers to these limits behind it, and the place behind them."""
    head = [word]
    for most in limits:
        number, at = number_within(text, behind(text, at, " "), 0, most)
        head.append(number)
    return (tuple(head), at)


def read_rule(text):
    """The rule that is written so; BadText for all else."""
    if not isinstance(text, str):
        raise BadText(0)
    a, at = number_within(text, behind_word(text, 0, "rule "), 1, MOST_CLASSES)
    b, at = number_within(text, behind(text, at, " "), 1, MOST_CLASSES)
    passes = []
    while len(passes) == 0 or at < len(text):
        if len(passes) == MOST_PASSES:
            raise BadText(at)
        tables, at = tables_at(text, behind_word(text, at, "\npass"), a * b)
        passes.append(tables)
    return (a, b, tuple(passes))


def tables_at(text, at, many):
    """The tuple of so many tables at this place of a text, and the place behind them."""
    tables = []
    for left in reversed(range(many)):
        table, at = table_at(text, behind_word(text, at, " :"), left == 0)
        tables.append(table)
    return (tuple(tables), at)


def table_at(text, at, is_last):
    """The table whose codes stand from this place of a text on, and the place behind them."""
    table = []
    least = 0
    while text[at:at + 1] == " " and (is_last or text[at + 1:at + 2] != ":"):
        if least > MOST_CODE:
            # No code is left: the blank may still be that ahead of a table, if one is to come.
            raise BadText(at if is_last else at + 1)
        code, at = number_within(text, at + 1, least, MOST_CODE)
        table.append(code)
        least = code + 1
    return (tuple(table), at)


def number_within(text, at, least, most):
    """The integer from least to most at this place of a text, and the place behind it."""
    end = at
    while end < len(text) and begins_number(text[at:end + 1], least, most):
        end += 1
    if end == at or int(text[at:end]) < least:
        raise BadText(end)
    return (int(text[at:end]), end)


def begins_number(signs, least, most):
    """Whether the signs, all but the last of which are digits, begin the digits of an integer from least to most."""
    if signs[-1] not in DIGITS or (len(signs) > 1 and signs[0] == "0"):
        return False
    # The integers whose digits begin so: from low to high, with more and more digits to come.
    low = high = int(signs)
    while 0 < low <= most and high < least:
        low, high = 10 * low, 10 * high + 9
    return low <= most and high >= least


def behind_word(text, at, word):
    """The place behind the word that has to stand at this place of a text."""
    alike = signs_alike(text[at:at + len(word)], word)
    if alike < len(word):
        raise BadText(at + alike)
    return at + alike
