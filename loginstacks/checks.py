"""Checks of numbers, and of dicts that are to have a value for each of some names."""


def is_number(value, least, most):
    """Whether a value of any kind is an integer within these bounds."""
    # Python counts True and False as integers, but here they are not.
    return isinstance(value, int) and not isinstance(value, bool) and least <= value <= most


def least_wrong_name(names, values, is_right):
    """The least name that a dict lacks, that is none of the names, or whose value is not right, or None."""
    for name in sorted(list(names) + list(values)):
        if name not in names or name not in values or not is_right(values[name]):
            return name
    return None
