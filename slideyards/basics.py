"""What all layers ask of single values."""


def is_integer(value):
    """Whether a value is an integer: True and False are none."""
    return isinstance(value, int) and not isinstance(value, bool)


def is_row(value):
    """Whether a value may be passed as a row: a list stands for a tuple."""
    return isinstance(value, (tuple, list))


def frozen(value):
    """What an object keeps of a value: a list could change later, so it is copied as a tuple."""
    return tuple(value) if isinstance(value, list) else value
