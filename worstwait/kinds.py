"""Of what kind a value is: numbers, words and lists as the document speaks of them."""

from worstwait.errors import BadNumber


def is_number(thing):
    """Whether it is an int that is not a bool."""
    return isinstance(thing, int) and not isinstance(thing, bool)


def are_numbers(row):
    """Whether each one of a list is a number."""
    # Nearly always none is left to be asked in full, and rows are long.
    return all([is_number(one) for one in row if type(one) is not int])


def is_from(thing, low, high):
    """Whether it is a number from low to high."""
    return is_number(thing) and low <= thing <= high


def is_list(thing):
    """Whether it may be given where a list is spoken of."""
    return isinstance(thing, (list, tuple))


def is_word(thing):
    """Whether it is a string of 1 to 12 letters from a to z."""
    if not isinstance(thing, str) or not 1 <= len(thing) <= 12:
        return False
    return all(["a" <= sign <= "z" for sign in thing])


def has_just(thing, words):
    """Whether it is a dict that has just these words, all unlike, as its keys."""
    if not isinstance(thing, dict) or len(thing) != len(words):
        return False
    return all([word in thing for word in words])


def need_number(thing, low, high, part):
    """Raise the error that names this part unless it is a number from low to high."""
    if not is_from(thing, low, high):
        raise BadNumber(part)
