"""What an integer, a flag, a row, a name, a state, an index and a post are.

The things that are asked about may be of any kind: nothing is compared or looked up ahead of a check of its kind.
"""

MOST_LETTERS = 10
GREATEST_STATE = 99


def is_integer(thing):
    return isinstance(thing, int) and not isinstance(thing, bool)


def is_flag(thing):
    return isinstance(thing, bool)


def is_row(thing):
    return isinstance(thing, (list, tuple))


def is_row_of(thing, least, most):
    """Whether a thing is a row with at least and at most so many items."""
    return is_row(thing) and least <= len(thing) <= most


def is_name(thing):
    if not isinstance(thing, str) or not 1 <= len(thing) <= MOST_LETTERS:
        return False
    return all(["a" <= letter <= "z" for letter in thing])


def is_state(thing):
    return is_integer(thing) and 0 <= thing <= GREATEST_STATE


def is_states(thing):
    """Whether a thing is a tuple of states, as a standing is."""
    # True equals 1 and 1.0 equals 1: only a look at each state keeps (True,) and (1.0,) apart from (1,).
    return isinstance(thing, tuple) and all([is_state(state) for state in thing])


def is_tuple_of(thing, many):
    return isinstance(thing, tuple) and len(thing) == many


def is_post(thing):
    return is_index(thing, 2)


def is_index(thing, many):
    """Whether a thing is the index of one of so many."""
    return is_integer(thing) and 0 <= thing < many
