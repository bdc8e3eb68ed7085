"""Forms: the five kinds of tuples that are wishes, whatever a works has."""

from watchedworks.faultruns import is_count
from watchedworks.kinds import is_flag, is_name, is_tuple_of

KEPT = "kept"
TOLD = "told"
WARNED = "warned"
HIDDEN = "hidden"
SURE = "sure"


def is_form(thing):
    """Whether a thing is a wish of some works."""
    if is_tuple_of(thing, 1):
        return is_word(thing[0], KEPT)
    if not is_tuple_of(thing, 3):
        return False
    form, about, more = thing
    if is_word(form, TOLD) or is_word(form, WARNED):
        return is_name(about) and is_count(more)
    if is_word(form, HIDDEN):
        return is_name(about) and is_flag(more)
    return is_word(form, SURE) and is_tuple_of_words(about) and is_tuple_of_words(more)


def is_word(thing, word):
    return isinstance(thing, str) and thing == word


def is_tuple_of_words(thing):
    """Whether a thing is an ascending tuple of different names."""
    if not isinstance(thing, tuple) or not all([is_name(word) for word in thing]):
        return False
    return all([thing[at] < thing[at + 1] for at in range(len(thing) - 1)])


def is_downward(wish):
    """Whether more instruments never help a wish; they never hurt any other."""
    return wish[0] == HIDDEN
