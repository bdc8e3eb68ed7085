"""Boxes: the instruments from which sets are chosen, and what posts see and hold by a set."""

from watchedworks.errors import BadInstrument, BadName
from watchedworks.instruments import check_name, check_post, is_instrument
from watchedworks.kinds import is_name, is_row_of
from watchedworks.runs import check_run
from watchedworks.sets import check_chosen, locks_at, sensors_at
from watchedworks.sights import check_reader, sights_of_moves, word_sights

MOST_INSTRUMENTS = 6


class Box:
    """One to six instruments with different names; it never changes."""

    def __init__(self, instruments):
        check_instruments(instruments)
        self._table = {instrument.name: instrument for instrument in instruments}

    def __eq__(self, other):
        return isinstance(other, Box) and self._table == other._table

    def __len__(self):
        return len(self._table)

    def __getitem__(self, name):
        if not is_name(name) or name not in self._table:
            raise BadName(name)
        return self._table[name]

    def __iter__(self):
        raise TypeError("a box is not gone through: it has names(), and an instrument for each")

    def __or__(self, instrument):
        many = len(self._table)
        if many == MOST_INSTRUMENTS:
            raise BadInstrument(many)
        # The new one has the index that is asked for if it is no instrument or has a name that is taken.
        return Box(list(self._table.values()) + [instrument])

    def __sub__(self, name):
        if not is_name(name) or name not in self._table or len(self._table) == 1:
            raise BadName(name)
        return Box([self._table[other] for other in self._table if other != name])

    def names(self):
        return sorted(self._table)

    def price(self, chosen):
        check_chosen(self, chosen)
        return sum([self._table[name].cost for name in chosen])

    def sight(self, chosen, post, word):
        check_chosen(self, chosen)
        check_post(post)
        check_name(word)
        return sight_by(sensors_at(self, chosen, post), word)

    def holds(self, chosen, post):
        check_chosen(self, chosen)
        check_post(post)
        return sorted({word for lock in locks_at(self, chosen, post) for word in lock.words})

    def joint(self, chosen, word):
        both = (self.sight(chosen, 0, word), self.sight(chosen, 1, word))
        return None if both == (None, None) else both


def seen(works, box, chosen, post, run):
    check_chosen(box, chosen)
    check_reader(post)
    check_run(works, run)
    return sights_of_moves(word_sights(works, box, chosen, post), run)


def check_instruments(instruments):
    if not is_row_of(instruments, 1, MOST_INSTRUMENTS):
        raise BadInstrument(-1)
    names = []
    for at, thing in enumerate(instruments):
        if not is_instrument(thing) or thing.name in names:
            raise BadInstrument(at)
        names.append(thing.name)


def sight_by(sensors, word):
    """What is seen of a word by these sensors together; None if none of them sees it."""
    shown = tuple([sensor.sights.get(word) for sensor in sensors])
    return None if all([sight is None for sight in shown]) else shown
