"""Surveys: which sets of a box fulfil which of some wishes."""

from watchedworks.errors import BadWishes
from watchedworks.forms import KEPT, SURE, is_downward
from watchedworks.kinds import is_row_of
from watchedworks.sets import locks_at, sensors_at
from watchedworks.wishes import fulfils, is_wish

MOST_WISHES = 6


def check_wishes(works, wishes):
    if not is_row_of(wishes, 1, MOST_WISHES):
        raise BadWishes(-1)
    for at, wish in enumerate(wishes):
        if not is_wish(works, wish):
            raise BadWishes(at)


class Survey:
    """A look at all sets, ascending, and of each set at all wishes: so the first error is that of the first of them."""

    def __init__(self, works, box, wishes):
        self._flags = {}
        for chosen in all_sets(box):
            flags = []
            for at, wish in enumerate(wishes):
                # This part of the set is the set itself, or has been looked at before.
                part = part_asked(box, chosen, wish)
                flags.append(fulfils(works, box, chosen, wish) if part == chosen else self._flags[part][at])
            self._flags[chosen] = flags

    def sets_with(self, places):
        """The sets, ascending, that fulfil the wishes with these indexes."""
        return [chosen for chosen in self._flags if self._has(chosen, places)]

    def sets_without(self, places):
        """The sets, ascending, that do not fulfil all wishes with these indexes."""
        return [chosen for chosen in self._flags if not self._has(chosen, places)]

    def first_lack(self, chosen, places):
        """The first of these indexes whose wish a set does not fulfil, None if there is none; the set ascends."""
        for at in places:
            if not self._flags[chosen][at]:
                return at
        return None

    def _has(self, chosen, places):
        return self.first_lack(chosen, places) is None


def all_sets(box):
    """All sets of a box, ascending by their numbers and then as tuples."""
    sets = [()]
    for name in box.names():
        sets = sets + [chosen + (name,) for chosen in sets]
    return sorted(sets, key=lambda chosen: (len(chosen), chosen))


def part_asked(box, chosen, wish):
    """The part of a set that matters for a wish: without it the posts, and all that they see, are the same."""
    if wish[0] == SURE:
        return ()
    parts = [part_asked_at(box, chosen, wish, post) for post in (0, 1)]
    return tuple(sorted([one.name for part in parts for one in part]))


def part_asked_at(box, chosen, wish, post):
    if wish[0] != KEPT:
        return sensors_at(box, chosen, post)
    locks = locks_at(box, chosen, post)
    return locks + sensors_at(box, chosen, post) if locks else []


def places_of(wishes):
    """The indexes of all of these wishes."""
    return list(range(len(wishes)))


def upward_places(wishes):
    return [at for at, wish in enumerate(wishes) if not is_downward(wish)]


def downward_places(wishes):
    return [at for at, wish in enumerate(wishes) if is_downward(wish)]


def is_part(one, other):
    """Whether all of one set is in the other one."""
    return all([name in other for name in one])


def least_of(sets):
    """Those of some sets of which none of the others is a part, in their order."""
    return [chosen for chosen in sets if not any([is_part(one, chosen) for one in sets if one != chosen])]


def greatest_of(sets):
    return [chosen for chosen in sets if not any([is_part(chosen, one) for one in sets if one != chosen])]
