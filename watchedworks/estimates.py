"""Estimates: where the kept works can be, for a reader who has seen some sights."""

from watchedworks.keptworks import kept_moves_of, start_of
from watchedworks.reach import ways_from


class Reading:
    """What a reader knows of the standing; a dict tells what the reader sees of each word, None for nothing."""

    def __init__(self, works, sights):
        moves = kept_moves_of(works)
        self._start = start_of(works)
        self._sights = sights
        self._seen = {at: [move for move in moves[at] if sights[move[0]] is not None] for at in moves}
        unseen = {at: [move for move in moves[at] if sights[move[0]] is None] for at in moves}
        self._unseen_ways = {at: ways_from(at, unseen) for at in moves}

    def beginning(self):
        """The standings behind no sights, ascending."""
        return sorted(self._unseen_ways[self._start])

    def behind(self, standings, sight):
        """The standings, ascending, to which these become by one more sight; a sight may be anything."""
        return self._with_unseen([
            behind for standing in standings for word, behind in self._seen[standing] if self._sights[word] == sight
        ])

    def behind_word(self, standings, word):
        """The standings to which these become by what the reader sees of a word."""
        sight = self._sights[word]
        return list(standings) if sight is None else self.behind(standings, sight)

    def behind_all(self, sights):
        """The standings behind a row of sights."""
        standings = self.beginning()
        for sight in sights:
            standings = self.behind(standings, sight)
        return standings

    def next_sights(self, standings):
        """The different sights that moves from these standings show."""
        found = {}
        for standing in standings:
            for word, _ in self._seen[standing]:
                found[self._sights[word]] = True
        return list(found)

    def run_behind(self, sights):
        """A kept run that shows just these sights, which some kept run shows."""
        estimates = [self.beginning()]
        for sight in sights:
            estimates.append(self.behind(estimates[-1], sight))
        standing = estimates[-1][0]
        run = ()
        for at in range(len(sights) - 1, -1, -1):
            standing, leg = self._leg_to(standing, sights[at], estimates[at])
            run = leg + run
        return self._unseen_ways[self._start][standing] + run

    def _leg_to(self, end, sight, standings):
        """One of these standings, and from there a move that shows the sight and unseen ones that lead to the end."""
        for standing in standings:
            for word, behind in self._seen[standing]:
                if self._sights[word] == sight and end in self._unseen_ways[behind]:
                    return (standing, ((word, behind),) + self._unseen_ways[behind][end])
        return None

    def _with_unseen(self, standings):
        return sorted({behind for standing in standings for behind in self._unseen_ways[standing]})
