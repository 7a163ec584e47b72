"""What several modules ask of any object: each answer is a flag, none raises an error."""


def is_integer(thing):
    """Whether a thing is an int that is no flag."""
    return isinstance(thing, int) and not isinstance(thing, bool)


def is_integer_within(low, high, thing):
    """Whether a thing is an integer from low to high."""
    return is_integer(thing) and low <= thing <= high


def is_pair(thing):
    """Whether a thing is a tuple of two."""
    return isinstance(thing, tuple) and len(thing) == 2


def is_flags_within(fewest, most, thing):
    """Whether a thing is a tuple of at least the fewest and at most the most flags."""
    if not isinstance(thing, tuple) or not fewest <= len(thing) <= most:
        return False
    return all([isinstance(item, bool) for item in thing])
