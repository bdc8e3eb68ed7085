"""Wishes: what is wished of a works, each asked and shown by the functions that it stands for."""

from watchedworks.errors import BadWish
from watchedworks.foretelling import is_unwarned, is_warn_paper, unwarned, warn_paper
from watchedworks.forms import HIDDEN, KEPT, TOLD, WARNED, is_form
from watchedworks.hiding import betrayal, hide_paper, is_betrayal, is_hide_paper
from watchedworks.keeping import conflict, is_conflict, is_keep_paper, keep_paper
from watchedworks.sets import check_chosen
from watchedworks.surely import escape, is_escape, is_sure_paper, sure_paper
from watchedworks.telling import is_tell_paper, is_untold, tell_paper, untold


def is_wish(works, thing):
    if not is_form(thing):
        return False
    if thing[0] == TOLD or thing[0] == WARNED:
        return thing[1] in works.faults
    return thing[0] != HIDDEN or thing[1] in works.secrets


def fulfils(works, box, chosen, wish):
    return against(works, box, chosen, wish) is None


def paper_of(works, box, chosen, wish):
    check_wish_of_set(works, box, chosen, wish)
    if wish[0] == KEPT:
        return keep_paper(works, box, chosen)
    form, about, more = wish
    if form == TOLD:
        return tell_paper(works, box, chosen, about, more)
    if form == WARNED:
        return warn_paper(works, box, chosen, about, more)
    if form == HIDDEN:
        return hide_paper(works, box, chosen, about, joint=more)
    return sure_paper(works, seen=about, wanted=more)


def against(works, box, chosen, wish):
    check_wish_of_set(works, box, chosen, wish)
    if wish[0] == KEPT:
        return conflict(works, box, chosen)
    form, about, more = wish
    if form == TOLD:
        return untold(works, box, chosen, about, more)
    if form == WARNED:
        return unwarned(works, box, chosen, about, more)
    if form == HIDDEN:
        return betrayal(works, box, chosen, about, joint=more)
    return escape(works, seen=about, wanted=more)


def is_paper_of(works, box, chosen, wish, thing):
    check_wish_of_set(works, box, chosen, wish)
    if wish[0] == KEPT:
        return is_keep_paper(works, box, chosen, thing)
    form, about, more = wish
    if form == TOLD:
        return is_tell_paper(works, box, chosen, about, more, thing)
    if form == WARNED:
        return is_warn_paper(works, box, chosen, about, more, thing)
    if form == HIDDEN:
        return is_hide_paper(works, box, chosen, about, thing, joint=more)
    return is_sure_paper(works, thing, seen=about, wanted=more)


def is_against(works, box, chosen, wish, thing):
    check_wish_of_set(works, box, chosen, wish)
    if wish[0] == KEPT:
        return is_conflict(works, box, chosen, thing)
    form, about, more = wish
    if form == TOLD:
        return is_untold(works, box, chosen, about, more, thing)
    if form == WARNED:
        return is_unwarned(works, box, chosen, about, more, thing)
    if form == HIDDEN:
        return is_betrayal(works, box, chosen, about, thing, joint=more)
    return is_escape(works, thing, seen=about, wanted=more)


def check_wish_of_set(works, box, chosen, wish):
    check_chosen(box, chosen)
    if not is_wish(works, wish):
        raise BadWish(wish)
