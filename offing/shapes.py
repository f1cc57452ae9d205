"""Whether values of anybody have the shape that is asked for."""


def is_number(value):
    """Tell whether a value is an integer, and no truth value."""
    return isinstance(value, int) and not isinstance(value, bool)


def is_natural(value):
    """Tell whether a value is an integer from 0 on."""
    return is_number(value) and value >= 0


def is_tuple_of(value, many):
    """Tell whether a value is a tuple with so many items."""
    return isinstance(value, tuple) and len(value) == many


def is_row(value):
    """Tell whether a value is a tuple of integers."""
    return isinstance(value, tuple) and all([is_number(one) for one in value])


def are_rows(value, many):
    """Tell whether a value is a tuple of so many tuples of integers."""
    return is_tuple_of(value, many) and all([is_row(one) for one in value])


def is_told_item(value):
    """Tell whether a value is a pair of an integer from 0 on and a tuple of integers, its proof."""
    return is_tuple_of(value, 2) and is_natural(value[0]) and is_row(value[1])


def begins_with_word(value):
    """Tell whether a value is a tuple that begins with a string."""
    return isinstance(value, tuple) and len(value) > 0 and isinstance(value[0], str)
