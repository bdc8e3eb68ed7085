"""Wordings: wishes as lines of text."""

from watchedworks.errors import BadText, BadWish
from watchedworks.forms import HIDDEN, KEPT, SURE, TOLD, WARNED, is_form
from watchedworks.numerals import is_numeral

WITHIN = "within"
AHEAD = "ahead"
JOINTLY = "jointly"
BY = "by"
NO_WORDS = "-"
MOST_DIGITS = 4


def worded(wish):
    if not is_form(wish):
        raise BadWish(wish)
    if wish[0] == KEPT:
        return KEPT
    form, about, more = wish
    if form == TOLD:
        return " ".join([TOLD, about, WITHIN, str(more)])
    if form == WARNED:
        return " ".join([WARNED, about, AHEAD, str(more)])
    if form == HIDDEN:
        return " ".join([HIDDEN, about, JOINTLY] if more else [HIDDEN, about])
    return " ".join([SURE, row_worded(more), BY, row_worded(about)])


def read_wish(text):
    if not isinstance(text, str):
        raise BadText(-1)
    wish = wish_of(text.split(" "))
    if not is_form(wish):
        raise BadText(0)
    return wish


def wish_of(words):
    """The tuple that these words tell; what it holds is not yet checked. None if they are set otherwise."""
    form, many = words[0], len(words)
    if form == KEPT and many == 1:
        return (KEPT,)
    if form == HIDDEN and (many == 2 or many == 3 and words[2] == JOINTLY):
        return (HIDDEN, words[1], many == 3)
    if many != 4:
        return None
    if form == TOLD and words[2] == WITHIN or form == WARNED and words[2] == AHEAD:
        return (form, words[1], number_of(words[3]))
    if form == SURE and words[2] == BY:
        return (SURE, row_of(words[3]), row_of(words[1]))
    return None


def row_worded(words):
    return ",".join(words) if words else NO_WORDS


def row_of(text):
    return () if text == NO_WORDS else tuple(text.split(","))


def number_of(text):
    """The number that is written so, None if none is."""
    return int(text) if is_numeral(text, MOST_DIGITS) else None
