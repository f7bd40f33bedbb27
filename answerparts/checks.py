"""What several files ask of single values."""


def is_number(value, most):
    """Tell whether a value is an integer from 0 to most."""
    # True and False are integers for isinstance, but never here.
    return type(value) is int and 0 <= value <= most
