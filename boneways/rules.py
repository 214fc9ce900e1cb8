"""Rules, and conditions that tell codes (points 5.1 to 5.5)."""

from boneways.simple import code_numbers, is_simple_code, turned_code
from boneways.values import is_ascending, is_whole, is_whole_to

MOST_CLASSES = 3
MOST_PASSES = 8
MOST_CODE = 255
MOST_PARTS = 200
MOST_DEPTH = 30
# All classes of all rules come again after so many columns, and rows.
ALL_CLASSES = 6

# The words of conditions, each with the greatest values of the integers behind it.
NUMBER_LIMITS = {
    "all": (),
    "none": (),
    "code": (255,),
    "black": (7,),
    "count": (8, 8),
    "sides": (8, 8),
    "runs": (8, 8),
    "simple": (),
    "turned": (7,),
    "some turn": (),
    "either": (),
    "both": (),
    "not": (),
}


def is_count(value, most):
    """Whether any value is an integer from 1 to most."""
    return is_whole(value) and 1 <= value <= most


def is_table(value):
    """Whether any value is an ascending tuple of unlike codes."""
    if not isinstance(value, tuple):
        return False
    return all(is_whole_to(code, MOST_CODE) for code in value) and is_ascending(value)


def has_rule_form(value):
    """Whether any value is a triple of two numbers of classes and a tuple of one to eight members."""
    if not (isinstance(value, tuple) and len(value) == 3):
        return False
    if not (is_count(value[0], MOST_CLASSES) and is_count(value[1], MOST_CLASSES)):
        return False
    return isinstance(value[2], tuple) and is_count(len(value[2]), MOST_PASSES)


def has_pass_form(value, many):
    """Whether any value is a tuple of so many tuples."""
    return isinstance(value, tuple) and len(value) == many and all(isinstance(table, tuple) for table in value)


def judge_rule(value):
    """None if any value is a rule, else the first fault."""
    if not has_rule_form(value):
        return ("form",)
    a, b, passes = value
    for p, tables in enumerate(passes):
        if not has_pass_form(tables, a * b):
            return ("pass", p)
    for p, tables in enumerate(passes):
        for k, table in enumerate(tables):
            if not is_table(table):
                return ("table", p, k)
    return None


def is_rule(value):
    """Whether any value is a rule."""
    return judge_rule(value) is None


def class_number(a, b, cell):
    """The number of the table of a cell, in rules with a times b classes."""
    return cell[0] % a * b + cell[1] % b


def table_number(rule, cell):
    """The number of the table of a cell."""
    return class_number(rule[0], rule[1], cell)


def strikes_code(rule, p, cell, code):
    """Whether pass p strikes a black cell at this place whose code is this."""
    return code in rule[2][p][table_number(rule, cell)]


def entries_of(rule, p):
    """The ascending tuple of the pairs of a table's number and a code of it, of pass p."""
    return tuple((k, code) for k, table in enumerate(rule[2][p]) for code in table)


def parts_told(value):
    """The tuple of what stands where any value has its conditions, None if it is no condition by itself."""
    if not (isinstance(value, tuple) and len(value) > 0 and isinstance(value[0], str)):
        return None
    word, told = value[0], value[1:]
    if word in ("either", "both"):
        return told[0] if len(told) == 1 and isinstance(told[0], tuple) else None
    if word in ("not", "some turn"):
        return told if len(told) == 1 else None
    if word == "turned":
        return told[1:] if len(told) == 2 and is_whole_to(told[0], 7) else None
    limits = NUMBER_LIMITS.get(word)
    if limits is None or len(limits) != len(told):
        return None
    return () if all(is_whole_to(number, most) for number, most in zip(told, limits)) else None


def part_depths(value):
    """The list of how deep each part of a condition lies, 1 for itself; None for what is none."""
    depths = []
    waiting = [(value, 1)]
    while waiting:
        part, depth = waiting.pop()
        inner = parts_told(part)
        if inner is None:
            return None
        depths.append(depth)
        waiting.extend([(each, depth + 1) for each in inner])
    return depths


def parts_in(condition):
    """The number of the parts of a condition."""
    return len(part_depths(condition))


def judge_condition(value):
    """None if any value is a condition of no great size, else the first fault."""
    depths = part_depths(value)
    if depths is None:
        return ("form",)
    if len(depths) > MOST_PARTS or max(depths) > MOST_DEPTH:
        return ("size",)
    return None


def is_condition(value):
    """Whether any value is a condition of no great size."""
    return judge_condition(value) is None


def leaf_holds(condition, code):
    """Whether a condition without parts holds of a code."""
    word = condition[0]
    if word == "simple":
        return is_simple_code(code)
    if word == "code":
        return code == condition[1]
    if word == "black":
        return code >> condition[1] & 1 == 1
    if word in ("count", "sides", "runs"):
        return condition[1] <= number_told(word, code) <= condition[2]
    return word == "all"


def number_told(word, code):
    """What a condition counts in a code: its numbers, its sides, or its runs, going round."""
    if word == "sides":
        code = code & 85
    elif word == "runs":
        # A run begins where the number ahead, 7 ahead of 0, is white.
        code = code & ~(code << 1 | code >> 7)
    return len(code_numbers(code))


def truths(condition, codes):
    """The dict of whether a condition holds, for codes among which are all their turned ones."""
    word = condition[0]
    if word in ("either", "both"):
        rows = [truths(each, codes) for each in condition[1]]
        if word == "either":
            return {code: any([row[code] for row in rows]) for code in codes}
        return {code: all([row[code] for row in rows]) for code in codes}
    if word == "not":
        inner = truths(condition[1], codes)
        return {code: not inner[code] for code in codes}
    if word == "turned":
        inner = truths(condition[2], codes)
        return {code: inner[turned_code(code, condition[1])] for code in codes}
    if word == "some turn":
        inner = truths(condition[1], codes)
        return {code: any([inner[turned_code(code, t)] for t in range(4)]) for code in codes}
    return {code: leaf_holds(condition, code) for code in codes}


def holds_of(condition, code):
    """Whether a condition holds of a code."""
    # All turns at once: tried anew at each "some turn", they would be four times as many each time.
    return truths(condition, [turned_code(code, t) for t in range(8)])[code]


def codes_of(condition):
    """The ascending tuple of all codes of which a condition holds."""
    held = truths(condition, list(range(MOST_CODE + 1)))
    return tuple(code for code in held if held[code])


def with_tables(rule, changed_table):
    """The rule with each table led to what changed_table makes of it."""
    a, b, passes = rule
    return (a, b, tuple([tuple([changed_table(table) for table in tables]) for tables in passes]))


def made_rule(a, b, passes):
    """The rule whose tables are the codes of conditions."""
    return with_tables((a, b, passes), codes_of)


def narrowed(rule, condition):
    """The rule with those codes alone of which a condition holds."""
    held = truths(condition, list(range(MOST_CODE + 1)))
    return with_tables(rule, lambda table: tuple([code for code in table if held[code]]))


def without(rule, p, k, code):
    """The rule without a code in table k of pass p."""
    a, b, passes = rule
    tables = passes[p]
    table = tuple(each for each in tables[k] if each != code)
    left = tables[:k] + (table,) + tables[k + 1:]
    return (a, b, passes[:p] + (left,) + passes[p + 1:])


def refined(rule, a, b):
    """The rule of more classes that strikes the same cells."""
    places = [(x, y) for x in range(a) for y in range(b)]
    return (a, b, tuple([tuple([tables[table_number(rule, place)] for place in places]) for tables in rule[2]]))


def alike_rules(one, other):
    """Whether two rules have as many passes that strike the same cells of all pictures."""
    return refined(one, ALL_CLASSES, ALL_CLASSES)[2] == refined(other, ALL_CLASSES, ALL_CLASSES)[2]


def turned_table(table):
    """The ascending tuple of the codes of a table, quarter-turned."""
    return tuple(sorted([turned_code(code, 1) for code in table]))


def quarter_turned_rule(rule):
    """The rule that strikes in each quarter-turned picture the turned cells."""
    a, b, passes = rule
    # The cell that comes to (x, y) stood at (y, -x).
    numbers = [table_number(rule, (y, -x)) for x in range(b) for y in range(a)]
    return (b, a, tuple([tuple([turned_table(tables[number]) for number in numbers]) for tables in passes]))


def turned_rule(rule, k):
    """The rule that strikes in each picture, turned by k quarters, the turned cells."""
    for _ in range(k):
        rule = quarter_turned_rule(rule)
    return rule
