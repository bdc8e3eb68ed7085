"""Verdicts: all that can be said of the sets of a box and some wishes, with papers."""

from watchedworks.forms import is_tuple_of_words
from watchedworks.kinds import is_integer, is_tuple_of
from watchedworks.sets import check_chosen
from watchedworks.surveys import Survey, all_sets, check_wishes, downward_places, greatest_of, is_part, least_of
from watchedworks.surveys import upward_places
from watchedworks.wishes import against, is_against, is_paper_of, paper_of


def verdict(works, box, wishes):
    check_wishes(works, wishes)
    survey = Survey(works, box, wishes)
    upward, downward = upward_places(wishes), downward_places(wishes)
    return (
        with_papers(works, box, wishes, upward, least_of(survey.sets_with(upward))),
        with_things(works, box, wishes, upward, survey, greatest_of(survey.sets_without(upward))),
        with_papers(works, box, wishes, downward, greatest_of(survey.sets_with(downward))),
        with_things(works, box, wishes, downward, survey, least_of(survey.sets_without(downward))),
    )


def is_verdict(works, box, wishes, thing):
    check_wishes(works, wishes)
    if not is_tuple_of(thing, 4) or not all([isinstance(rows, list) for rows in thing]):
        return False
    uppers, falls, lowers, leaks = thing
    upward, downward = upward_places(wishes), downward_places(wishes)
    if not all([has_papers(works, box, wishes, upward, item) for item in uppers]):
        return False
    if not all([has_thing(works, box, wishes, upward, item) for item in falls]):
        return False
    if not all([has_papers(works, box, wishes, downward, item) for item in lowers]):
        return False
    if not all([has_thing(works, box, wishes, downward, item) for item in leaks]):
        return False
    return all([
        (has_part_of(uppers, chosen) or is_part_of_one(chosen, falls))
        and (is_part_of_one(chosen, lowers) or has_part_of(leaks, chosen))
        for chosen in all_sets(box)
    ])


def by_verdict(box, thing, chosen):
    check_chosen(box, chosen)
    uppers, _, lowers, _ = thing
    return has_part_of(uppers, chosen) and is_part_of_one(chosen, lowers)


def with_papers(works, box, wishes, places, sets):
    """The sets, each with its papers for the wishes with these indexes."""
    return [(chosen, tuple([paper_of(works, box, chosen, wishes[at]) for at in places])) for chosen in sets]


def with_things(works, box, wishes, places, survey, sets):
    """The sets, each with the first of these indexes whose wish it does not fulfil, and what is against that."""
    lacks = [(chosen, survey.first_lack(chosen, places)) for chosen in sets]
    return [(chosen, at, against(works, box, chosen, wishes[at])) for chosen, at in lacks]


def has_papers(works, box, wishes, places, thing):
    """Whether a thing is a set with its right papers for the wishes with these indexes."""
    if not is_tuple_of(thing, 2) or not is_ascending_set(box, thing[0]) or not is_tuple_of(thing[1], len(places)):
        return False
    chosen, papers = thing
    return all([is_paper_of(works, box, chosen, wishes[at], paper) for at, paper in zip(places, papers)])


def has_thing(works, box, wishes, places, thing):
    """Whether a thing is a set with one of these indexes, and what rightly is against the wish with it."""
    if not is_tuple_of(thing, 3) or not is_ascending_set(box, thing[0]):
        return False
    chosen, at, told = thing
    return is_integer(at) and at in places and is_against(works, box, chosen, wishes[at], told)


def is_ascending_set(box, thing):
    return is_tuple_of_words(thing) and is_part(thing, box.names())


def has_part_of(items, chosen):
    """Whether the set of one of the items is a part of this set."""
    return any([is_part(item[0], chosen) for item in items])


def is_part_of_one(chosen, items):
    """Whether this set is a part of the set of one of the items."""
    return any([is_part(chosen, item[0]) for item in items])
