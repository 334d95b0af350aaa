"""What a value is that may be anything.

The kinds are exact: True is no integer, and an object of a class of its own, whose methods may raise any error, is
neither a text nor a tuple. Nothing here looks deeper into a value than it has to.
"""

LEAST_INTEGER = -999
GREATEST_INTEGER = 999


def is_tuple_of(value, length):
    """Whether the value is a tuple of this length."""
    return type(value) is tuple and len(value) == length


def is_dict_by_texts(value):
    """Whether the value is a dict whose keys are texts."""
    return type(value) is dict and all([type(key) is str for key in value])


def is_one_of(value, texts):
    """Whether the value is one of these texts."""
    return type(value) is str and value in texts


def is_index(value, rows):
    """Whether the value is the index of one of the rows."""
    return type(value) is int and 0 <= value < len(rows)


def is_field_integer(value):
    """Whether the value is an integer that a field may have."""
    return type(value) is int and LEAST_INTEGER <= value <= GREATEST_INTEGER


def is_exactly(value, wanted):
    """Whether the value equals what is wanted: a text, an integer, None, or a tuple of such."""
    if type(value) is type(wanted):
        if isinstance(wanted, tuple):
            same_length = len(value) == len(wanted)
            return same_length and all([is_exactly(value[at], wanted[at]) for at in range(len(wanted))])
        return value == wanted
    return False
