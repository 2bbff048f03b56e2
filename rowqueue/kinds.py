"""What is an integer, and what is a name."""

LONGEST_NAME = 8


def is_integer(thing):
    """Return whether any value is an integer; a truth is none."""
    return isinstance(thing, int) and not isinstance(thing, bool)


def is_name(thing):
    """Return whether any value is a string of one to eight letters a to z."""
    if not isinstance(thing, str) or not 1 <= len(thing) <= LONGEST_NAME:
        return False
    return all(["a" <= sign <= "z" for sign in thing])
