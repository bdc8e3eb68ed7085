"""Triples: a run of the works, followed side by side with the runs that the posts hold possible."""

from watchedworks.keptworks import kept_moves_of, start_of
from watchedworks.kinds import is_states, is_tuple_of
from watchedworks.searches import met_from
from watchedworks.sights import word_sights

MOST_TRIPLES = 3000


class Net:
    """The triples of a set and the steps between them, for the fault with these words.

    A step is told as the triple to which it leads, and the moves by which: that of the run and that of each post, with
    None for who makes none. A post that does not count stands at None; here it sees nothing and has no free moves.
    """

    def __init__(self, works, box, chosen, counting, fault_words):
        start = start_of(works)
        moves = kept_moves_of(works)
        sights = [
            word_sights(works, box, chosen, post) if counting[post] else {word: None for word in works.words}
            for post in (0, 1)
        ]
        plain = {at: [move for move in moves[at] if move[0] not in fault_words] for at in moves}
        faulty = {at: [move for move in moves[at] if move[0] in fault_words] for at in moves}
        self.first = (start,) + tuple([start if counts else None for counts in counting])
        self._counting = tuple(counting)
        self._plain = {at: moves_by_place(plain[at], sights) for at in plain}
        self._faulty = {at: moves_by_place(faulty[at], sights) for at in faulty}
        self._free = tuple([free_moves(plain, sights[post]) if counting[post] else {None: {}} for post in (0, 1)])

    def plain_steps(self, triple):
        """The own steps with words that are not of the fault."""
        return self._own_steps(self._plain, triple)

    def fault_steps(self, triple):
        """The own steps with words of the fault."""
        return self._own_steps(self._faulty, triple)

    def post_steps(self, triple):
        standing, first, second = triple
        return [
            ((standing, behind, second), (None, move, None)) for behind, move in self.unseen(0, first).items()
        ] + [
            ((standing, first, behind), (None, None, move)) for behind, move in self.unseen(1, second).items()
        ]

    def unseen(self, post, standing):
        """The free moves that the post does not see, as a dict from where they lead."""
        return self._free[post][standing].get(None, {})

    def standings_of(self, post):
        """The standings where the run of a post can be."""
        return list(self._free[post])

    def is_triple(self, thing):
        """Whether a thing is a triple of kept standings, with None exactly for the posts that do not count."""
        if not is_tuple_of(thing, 3) or not self._is_standing(thing[0]):
            return False
        return all([
            self._is_standing(thing[post + 1]) if self._counting[post] else thing[post + 1] is None for post in (0, 1)
        ])

    def others(self, first, second):
        """The runs of the two posts, None for each that does not count."""
        return (first if self._counting[0] else None, second if self._counting[1] else None)

    def _is_standing(self, thing):
        return is_states(thing) and thing in self._plain

    def _own_steps(self, table, triple):
        standing, first, second = triple
        return [
            ((behind, one, other), (move, one_move, other_move))
            for (behind, sight, other_sight), move in table[standing].items()
            for one, one_move in self._answers(0, first, sight).items()
            for other, other_move in self._answers(1, second, other_sight).items()
        ]

    def _answers(self, post, standing, sight):
        """How a post's run can go along with a word that the post sees so: a dict from where it then is to its move."""
        return {standing: None} if sight is None else self._free[post][standing].get(sight, {})


def moves_by_place(moves, sights):
    """Of moves that lead to the same standing, and that both posts see alike, one: all others give the same steps."""
    table = {}
    for word, behind in moves:
        table.setdefault((behind, sights[0][word], sights[1][word]), (word, behind))
    return table


def free_moves(moves, sights):
    """For each standing a dict from sights, None for none, to a dict from standings behind to one move there."""
    table = {at: {} for at in moves}
    for at in moves:
        for word, behind in moves[at]:
            table[at].setdefault(sights[word], {}).setdefault(behind, (word, behind))
    return table


def met_plain(net):
    """The triples that are met without own steps with words of the fault, each with the step that led there first."""
    return met_from({net.first: None}, lambda triple: steps_from(net, triple, False), MOST_TRIPLES)


def first_faulty(net, plain):
    """The triples to which own steps with words of the fault lead from the plain ones, each with one such step."""
    found = {}
    for triple in plain:
        for behind, moves in net.fault_steps(triple):
            found.setdefault(behind, (triple, moves))
    return found


def met_faulty(net, plain, begun):
    """The triples that are met behind own steps with words of the fault; some of them may be met plain, too."""
    return met_from(begun, lambda triple: steps_from(net, triple, True), MOST_TRIPLES, len(plain))


def steps_from(net, triple, with_fault):
    steps = net.plain_steps(triple) + net.post_steps(triple)
    return steps + net.fault_steps(triple) if with_fault else steps


def own_steps_from(net, triple):
    return net.plain_steps(triple) + net.fault_steps(triple)


def runs_by(moves):
    """The run, and the runs of the two posts, that the moves of some steps make."""
    return tuple([tuple([made[who] for made in moves if made[who] is not None]) for who in range(3)])
