"""Questions: what surely happens in the kept works behind some words, by the diligent hands."""

from watchedworks.keptworks import kept_moves_of, start_of
from watchedworks.kinds import is_flag, is_states, is_tuple_of
from watchedworks.reach import met_standings, ways_from
from watchedworks.searches import met_from

MOST_MARKED = 1000


class Question:
    """Whether the wanted words surely come behind the seen ones; moves that lead on are those without wanted words."""

    def __init__(self, works, seen, wanted):
        moves = kept_moves_of(works)
        hands = works.hands
        self._seen_words = sorted(set(seen))
        self._moves = {at: [move for move in moves[at] if move[0] not in wanted] for at in moves}
        self._hand_words = {hand: hands[hand].words for hand in works.diligent}
        self._able = {
            at: [hand for hand in self._hand_words if any([self.takes_part(hand, word) for word, _ in moves[at]])]
            for at in moves
        }
        self.first = (start_of(works), tuple([False for _ in self._seen_words]))

    def takes_part(self, hand, word):
        return word in self._hand_words[hand]

    def diligent_hands(self):
        return list(self._hand_words)

    def able_hands(self, standing):
        """The diligent hands that are able at a kept standing."""
        return list(self._able[standing])

    def moves_at(self, standing):
        """The moves that lead on from a kept standing."""
        return list(self._moves[standing])

    def steps_on(self, marked):
        """The moves that lead on from a marked standing, each with the marked standing to which it leads."""
        standing, flags = marked
        return [((behind, self._flags_behind(flags, word)), (word, behind)) for word, behind in self._moves[standing]]

    def is_marked(self, thing):
        if not is_tuple_of(thing, 2) or not is_states(thing[0]) or thing[0] not in self._moves:
            return False
        return is_tuple_of(thing[1], len(self._seen_words)) and all([is_flag(flag) for flag in thing[1]])

    def met(self):
        """The met marked standings, those behind fewer moves first, each with the one ahead of it and the move."""
        return met_from({self.first: None}, lambda marked: self.steps_on(marked), MOST_MARKED)

    def _flags_behind(self, flags, word):
        return tuple([flag or word == told for flag, told in zip(flags, self._seen_words)])


def is_open(marked):
    """Whether all flags of a marked standing are True."""
    return all(list(marked[1]))


class Rounds:
    """How one can go round by moves that lead on, from standings from which one may go on for ever.

    Standings are mates if such moves lead to and fro between them: whoever goes on for ever is at last among mates.
    """

    def __init__(self, question, standings):
        self._question = question
        moves = {at: question.moves_at(at) for at in standings}
        self._reach = {at: met_standings(at, moves) for at in moves}
        self._inner = {at: [move for move in moves[at] if at in self._reach[move[1]]] for at in moves}

    def rank(self, standing):
        """A number that mates share, and that is less behind each move that leads away from them."""
        return len(self._reach[standing])

    def idle_hand(self, standing):
        """A diligent hand that is able at all mates and takes part in no move among them; None if there is none."""
        mates = self._mates(standing)
        for hand in self._question.able_hands(standing):
            if all([hand in self._question.able_hands(at) for at in mates]) and not self._busy_moves(hand, mates):
                return hand
        return None

    def fair_loop(self, standing):
        """A fair way round from a standing where some diligent hand is able, but which has no idle hand."""
        loop = ()
        for hand in self._question.diligent_hands():
            loop = loop + self._way_for(hand, loop[-1][1] if loop else standing)
        # It is not empty: the hand that is able here has to go on, or elsewhere.
        return loop + ways_from(loop[-1][1], self._inner)[standing]

    def _way_for(self, hand, standing):
        """A way among mates to where the hand is not able, or by a move in which it takes part."""
        ways = ways_from(standing, self._inner)
        for at in ways:
            if hand not in self._question.able_hands(at):
                return ways[at]
        move_at, move = self._busy_moves(hand, list(ways))[0]
        return ways[move_at] + (move,)

    def _busy_moves(self, hand, mates):
        return [
            (at, move) for at in mates for move in self._inner[at] if self._question.takes_part(hand, move[0])
        ]

    def _mates(self, standing):
        return [at for at in self._reach[standing] if standing in self._reach[at]]
