"""Desks: where a set and wishes are tried out."""

from watchedworks.errors import BadIndex, BadName, BadWish, NothingDone
from watchedworks.goodsets import cheapest, why_not
from watchedworks.kinds import is_index, is_name
from watchedworks.sets import check_chosen
from watchedworks.surveys import MOST_WISHES
from watchedworks.wishes import fulfils, is_wish


class Desk:
    """A set and wishes that change by deeds, which can be taken back."""

    def __init__(self, works, box):
        self._works = works
        self._box = box
        self._chosen = ()
        self._wishes = ()
        # For each deed that can be taken back, the set and the wishes that were ahead of it.
        self._done = []

    @property
    def works(self):
        return self._works

    @property
    def box(self):
        return self._box

    @property
    def chosen(self):
        return self._chosen

    def put(self, name):
        if not is_name(name) or name not in self._box.names() or name in self._chosen:
            raise BadName(name)
        self._do(self._chosen + (name,), self._wishes)

    def take(self, name):
        if not is_name(name) or name not in self._chosen:
            raise BadName(name)
        self._do(tuple([other for other in self._chosen if other != name]), self._wishes)

    def choose(self, chosen):
        check_chosen(self._box, chosen)
        self._do(chosen, self._wishes)

    def wish(self, wish):
        if not is_wish(self._works, wish) or wish in self._wishes or len(self._wishes) == MOST_WISHES:
            raise BadWish(wish)
        self._do(self._chosen, self._wishes + (wish,))

    def forget(self, at):
        if not is_index(at, len(self._wishes)):
            raise BadIndex(at)
        self._do(self._chosen, self._wishes[:at] + self._wishes[at + 1:])

    def undo(self):
        if not self._done:
            raise NothingDone()
        self._chosen, self._wishes = self._done.pop()

    def wishes(self):
        return list(self._wishes)

    def fulfilled(self):
        return [fulfils(self._works, self._box, self._chosen, wish) for wish in self._wishes]

    def is_good(self):
        return all(self.fulfilled())

    def price(self):
        return self._box.price(self._chosen)

    def lacks(self):
        return why_not(self._works, self._box, self._wishes, self._chosen) if self._wishes else None

    def better(self):
        return cheapest(self._works, self._box, self._wishes) if self._wishes else (0, [()])

    def trial(self):
        return Trial(self)

    def trying(self, deed):
        with Trial(self):
            return deed(self)

    def _do(self, chosen, wishes):
        self._done.append((self._chosen, self._wishes))
        self._chosen = tuple(sorted(chosen))
        self._wishes = wishes


class Trial:
    """A context behind which a desk is as it was ahead of it."""

    def __init__(self, desk):
        self._desk = desk
        self._chosen = ()
        self._wishes = ()
        self._done = []

    def __enter__(self):
        self._chosen = self._desk._chosen
        self._wishes = self._desk._wishes
        self._done = list(self._desk._done)
        return self._desk

    def __exit__(self, kind, value, trace):
        desk = self._desk
        desk._chosen = self._chosen
        desk._wishes = self._wishes
        desk._done = self._done
