"""All sets of a box, judged wish by wish with the tests' own workings."""

import itertools

from tests.test_foretelling import is_warned
from tests.test_hiding import is_hidden_by_hand
from tests.test_keeping import keeps_by_estimates
from tests.test_surely import holds_by_hand
from tests.test_telling import late_by_estimates


def sets_of(box):
    """All sets, ascending."""
    names = box.names()
    return [chosen for many in range(len(names) + 1) for chosen in itertools.combinations(names, many)]


def fulfils_by_hand(works, box, chosen, wish):
    form, *more = wish
    if form == "kept":
        return keeps_by_estimates(works, box, chosen)
    if form == "told":
        late = late_by_estimates(works, box, chosen, more[0])
        return late is not None and late <= more[1]
    if form == "warned":
        return is_warned(works, box, chosen, *more)
    if form == "hidden":
        return is_hidden_by_hand(works, box, chosen, *more)
    return holds_by_hand(works, *more)


def flags_of(works, box, wishes):
    """For each set, ascending, whether it fulfils each of the wishes."""
    return {
        chosen: [fulfils_by_hand(works, box, chosen, wish) for wish in wishes] for chosen in sets_of(box)
    }


def least(sets):
    return [one for one in sets if not any(set(other) < set(one) for other in sets)]


def greatest(sets):
    return [one for one in sets if not any(set(one) < set(other) for other in sets)]


def without(chosen, name):
    return tuple(other for other in chosen if other != name)
