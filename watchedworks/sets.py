"""Sets: some of the instruments of a box, passed as a row of their names."""

from watchedworks.errors import BadSet
from watchedworks.instruments import Lock, Sensor
from watchedworks.kinds import is_name, is_row


def check_chosen(box, chosen):
    """Raise `BadSet` if a thing is not a set of the box."""
    if not is_row(chosen):
        raise BadSet(chosen)
    names = box.names()
    for at, item in enumerate(chosen):
        if not is_name(item) or item not in names or item in chosen[:at]:
            raise BadSet(item)


def sensors_at(box, chosen, post):
    """The sensors of a set at a post, ascending by their names."""
    return [one for one in instruments_at(box, chosen, post) if isinstance(one, Sensor)]


def locks_at(box, chosen, post):
    return [one for one in instruments_at(box, chosen, post) if isinstance(one, Lock)]


def instruments_at(box, chosen, post):
    instruments = [box[name] for name in sorted(chosen)]
    return [one for one in instruments if one.post == post]


def posts_with_sensors(box, chosen):
    """A tuple of a flag for each post: whether it has a sensor in the set."""
    return tuple([len(sensors_at(box, chosen, post)) > 0 for post in (0, 1)])


def posts_with_locks(box, chosen):
    return tuple([len(locks_at(box, chosen, post)) > 0 for post in (0, 1)])
