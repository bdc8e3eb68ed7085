"""What is to come of a fault in the kept works, whoever sees it."""

from watchedworks.faultruns import fault_words
from watchedworks.keptworks import kept_moves_of, start_of
from watchedworks.reach import ways_from


class Outlook:
    """The doomed standings of a fault, and those where it can come at once: a run without the fault is open there."""

    def __init__(self, works, fault):
        words = fault_words(works, fault)
        moves = kept_moves_of(works)
        self._start = start_of(works)
        self._plain = {at: [move for move in moves[at] if move[0] not in words] for at in moves}
        self._open_at = {at: True for at in moves if any([word in words for word, _ in moves[at]])}
        self._doomed = doomed_by(moves, self._plain)
        ways = ways_from(self._start, self._plain)
        open_runs = [ways[at] for at in ways if at in self._open_at]
        self.shortest = open_runs[0] if open_runs else None

    def doomed_standings(self):
        return sorted(self._doomed)

    def is_doomed(self, standing):
        return standing in self._doomed

    def is_open(self, standing):
        return standing in self._open_at

    def has_less_than(self, many):
        """Whether an open run has fewer moves than so many."""
        return self.shortest is not None and len(self.shortest) < many

    def is_settled(self):
        """Whether no sight matters: the start is doomed, or there is no open run."""
        return self._start in self._doomed or self.shortest is None

    def standings_ahead(self, many):
        """The standings, as keys, from which just so many moves without the fault lead to where a run is open."""
        return self._layers(many)[many]

    def way_on(self, standing, many):
        """One such row of moves from one of these standings."""
        layers = self._layers(many)
        way = ()
        for left in range(many - 1, -1, -1):
            moves = [move for move in self._plain[standing] if move[1] in layers[left]]
            way = way + (moves[0],)
            standing = moves[0][1]
        return way

    def _layers(self, many):
        layers = [self._open_at]
        for _ in range(many):
            last = layers[-1]
            layers.append({at: True for at in self._plain if any([move[1] in last for move in self._plain[at]])})
        return layers


def doomed_by(moves, plain):
    """The doomed standings as keys, by the kept moves of all standings and those of them without the fault."""
    found = {}
    more = [at for at in moves if moves[at] and not plain[at]]
    while more:
        for standing in more:
            found[standing] = True
        more = [
            at for at in moves
            if moves[at] and at not in found and all([move[1] in found for move in plain[at]])
        ]
    return found
