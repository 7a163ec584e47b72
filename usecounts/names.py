"""Names: strings of 1 to 8 letters a to z."""

NAME_LETTERS = "abcdefghijklmnopqrstuvwxyz"
LONGEST_NAME = 8


def is_name(thing):
    """Whether a thing is a name."""
    if not isinstance(thing, str) or not 1 <= len(thing) <= LONGEST_NAME:
        return False
    return all([sign in NAME_LETTERS for sign in thing])


def new_names(many, barred):
    """The first so many of a, b, .., z, aa, ab, .. that are no keys of the barred dict."""
    found = []
    number = 0
    while len(found) < many:
        name = _numbered_name(number)
        if name not in barred:
            found.append(name)
        number += 1
    return found


def _numbered_name(number):
    """The name at this place among a, b, .., z, aa, ab, .. ."""
    name = ""
    while number >= 0:
        name = NAME_LETTERS[number % len(NAME_LETTERS)] + name
        # Less one, since aa comes behind z: a is a sign of its own and no nought.
        number = number // len(NAME_LETTERS) - 1
    return name
