"""Hands: the machines of which a works is made."""

from watchedworks.errors import BadStart, BadSteps
from watchedworks.kinds import is_name, is_row_of, is_state

MOST_STEPS = 20
MOST_STEPS_AT_ONE_STATE = 3


class Hand:
    """A machine: a state where it starts, and steps `(state, word, state)`."""

    def __init__(self, start, steps):
        if not is_state(start):
            raise BadStart(start)
        check_steps(steps)
        self._start = start
        self._steps = tuple(steps)
        self._words = sorted({step[1] for step in steps})
        self._ordered_steps = sorted(steps)

    def __eq__(self, other):
        return (
            isinstance(other, Hand)
            and self._start == other._start
            and self._ordered_steps == other._ordered_steps
        )

    @property
    def start(self):
        return self._start

    @property
    def steps(self):
        return self._steps

    @property
    def words(self):
        return list(self._words)


def check_steps(steps):
    if not is_row_of(steps, 1, MOST_STEPS):
        raise BadSteps(-1)
    for at, step in enumerate(steps):
        if not is_step(step) or step in steps[:at] or is_one_too_many(step, steps[:at]):
            raise BadSteps(at)


def is_step(thing):
    if not isinstance(thing, tuple) or len(thing) != 3:
        return False
    return is_state(thing[0]) and is_name(thing[1]) and is_state(thing[2])


def is_one_too_many(step, earlier):
    """Whether the steps ahead of a step already are as many as one state may have."""
    return len([one for one in earlier if one[0] == step[0]]) >= MOST_STEPS_AT_ONE_STATE
