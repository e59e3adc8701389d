"""What all layers ask of single values."""


def is_integer(value):
    """Whether a value is an integer: True and False are none."""
    return isinstance(value, int) and not isinstance(value, bool)


def is_count(value):
    """Whether a value is an integer from 0 on."""
    return is_integer(value) and value >= 0


def is_row(value):
    """Whether a value may be passed as a row: a list stands for a tuple."""
    return isinstance(value, (tuple, list))


def frozen(value):
    """What an object keeps of a value: a list could change later, so it is copied as a tuple."""
    return tuple(value) if isinstance(value, list) else value


def are_unlike_numbers(many, value):
    """Whether any value is a row of unlike numbers from 0 on, all of them below so many."""
    if not is_row(value) or not all([is_count(number) and number < many for number in value]):
        return False
    return len(set(value)) == len(value)
