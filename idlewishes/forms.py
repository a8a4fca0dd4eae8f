"""The plainest forms of values, which several files look for or make."""

MOST_MARK = 3


def is_whole(value):
    """Whether any value is an integer."""
    # To Python, True and False are integers, too.
    return isinstance(value, int) and not isinstance(value, bool)


def is_number(value, least, most):
    """Whether any value is an integer from least to most."""
    return is_whole(value) and least <= value <= most


def is_ascending(value, most):
    """Whether any value is an ascending tuple, perhaps (), of integers from 0 to most."""
    if not isinstance(value, tuple):
        return False
    # Only what is known to be integers can be compared.
    if not all([is_number(item, 0, most) for item in value]):
        return False
    return all([low < high for low, high in zip(value, value[1:])])


def all_lots(many):
    """All ascending tuples of numbers from 0 on, below many; these ascending, too."""
    lots = [()]
    for number in range(many):
        lots = lots + [lot + (number,) for lot in lots]
    return sorted(lots)


def lots_by_size(many):
    """All ascending tuples of numbers from 0 on, below many; the shorter ones first, those of one size ascending."""
    return sorted(all_lots(many), key=lambda lot: (len(lot), lot))
