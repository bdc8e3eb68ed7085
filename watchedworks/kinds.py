"""What an integer, a row, a name, a state and an index are.

The things that are asked about may be of any kind: nothing is compared or looked up ahead of a check of its kind.
"""

MOST_LETTERS = 10
GREATEST_STATE = 99


def is_integer(thing):
    return isinstance(thing, int) and not isinstance(thing, bool)


def is_row(thing):
    return isinstance(thing, (list, tuple))


def is_row_of(thing, least, most):
    """Whether a thing is a row with at least and at most so many items."""
    return is_row(thing) and least <= len(thing) <= most


def is_name(thing):
    if not isinstance(thing, str) or not 1 <= len(thing) <= MOST_LETTERS:
        return False
    return all(["a" <= letter <= "z" for letter in thing])


def is_state(thing):
    return is_integer(thing) and 0 <= thing <= GREATEST_STATE


def is_index(thing, many):
    """Whether a thing is the index of one of so many."""
    return is_integer(thing) and 0 <= thing < many
