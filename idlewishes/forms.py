"""The plainest forms of values, which several files look for."""

MOST_MARK = 3


def is_number(value, least, most):
    """Whether any value is an integer from least to most."""
    # To Python, True and False are integers, too.
    if isinstance(value, bool) or not isinstance(value, int):
        return False
    return least <= value <= most


def is_ascending(value, most):
    """Whether any value is an ascending tuple, perhaps (), of integers from 0 to most."""
    if not isinstance(value, tuple):
        return False
    # Only what is known to be integers can be compared.
    if not all([is_number(item, 0, most) for item in value]):
        return False
    return all([low < high for low, high in zip(value, value[1:])])
