"""What any value may be asked for: whole numbers, ascending tuples, copies."""


def is_whole(value):
    """Whether any value is an integer; True and False are none."""
    return isinstance(value, int) and not isinstance(value, bool)


def is_whole_to(value, most):
    """Whether any value is an integer from 0 to most."""
    return is_whole(value) and 0 <= value <= most


def is_ascending(items):
    """Whether each of the items, which can be compared, is less than the next one."""
    return all(low < high for low, high in zip(items, items[1:]))


def copied(value):
    """A value equal to any value, whose lists and dicts, however deep, are copies."""
    if isinstance(value, list):
        return [copied(item) for item in value]
    if isinstance(value, tuple):
        return tuple([copied(item) for item in value])
    if isinstance(value, dict):
        return {key: copied(item) for key, item in value.items()}
    return value
