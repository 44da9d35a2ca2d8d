"""Looks at any values: integers, amounts and names."""

# The greatest bound, weight, keep, price and number of bays and rooms that may be told.
GREATEST = 10 ** 30

# The greatest size of lockers and of things.
MOST_SIZE = 9


def is_integer(value):
    """Whether any value is an int that is not a bool."""
    return isinstance(value, int) and not isinstance(value, bool)


def is_within(value, least, most):
    """Whether any value is an integer from least to most."""
    return is_integer(value) and least <= value <= most


def is_amount(value):
    """Whether any value is an integer from 0 on."""
    return is_integer(value) and value >= 0


def is_name(value):
    """Whether any value is a string of 1 to 8 letters from a to z, but not `self`."""
    if not isinstance(value, str) or not 1 <= len(value) <= 8 or value == "self":
        return False
    return all(["a" <= letter <= "z" for letter in value])


def is_sequence(value):
    """Whether any value is a list or a tuple."""
    return isinstance(value, (list, tuple))
