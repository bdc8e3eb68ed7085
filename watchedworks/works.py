"""Works: hands that move together, with bars, faults, secrets and diligent hands."""

from watchedworks.checks import MOST_HANDS, check_bars, check_diligent, check_faults, check_hands, check_joined_limits
from watchedworks.checks import check_new_words, check_nothing_shared, check_secrets, check_standing, names_of_faults
from watchedworks.errors import BadHands, BadName, BadWord, TooMany
from watchedworks.hands import Hand
from watchedworks.kinds import is_name
from watchedworks.patterns import agrees_with_one, all_pairs_of, moved, patterns_of, without_repeats
from watchedworks.reach import met_standings, reached_moves

MOST_WORDS = 10


class Works:
    """One to three hands and what is wished of them; it never changes."""

    def __init__(self, hands, *, bars=(), faults=None, secrets=None, diligent=()):
        check_hands(hands)
        start = tuple([hand.start for hand in hands])
        words = sorted({word for hand in hands for word in hand.words})
        check_bars(bars, start)
        check_faults(faults, words)
        check_secrets(secrets, len(hands))
        check_diligent(diligent, len(hands))
        if len(words) > MOST_WORDS:
            raise TooMany(MOST_WORDS)
        moves = reached_moves(hands, words)
        self._hands = tuple(hands)
        self._words = words
        # Bars and patterns stay in their order, though equal works may differ in it: a text of the works shows it.
        self._bars = all_pairs_of(bars)
        self._faults = kept_table(faults)
        self._secrets = {name: all_pairs_of(rows) for name, rows in kept_table(secrets).items()}
        self._diligent = tuple(sorted(diligent))
        self._moves = moves
        self._barred = {standing: agrees_with_one(standing, self._bars) for standing in moves}
        self._kept_moves = kept_part(moves, self._barred)
        self._kept = met_standings(start, self._kept_moves)

    def __eq__(self, other):
        return (
            isinstance(other, Works)
            and self._hands == other._hands
            and sorted(set(self._bars)) == sorted(set(other._bars))
            and self._faults == other._faults
            and ordered_secrets(self._secrets) == ordered_secrets(other._secrets)
            and self._diligent == other._diligent
        )

    def __add__(self, other):
        if not isinstance(other, Works) or len(self._hands) + len(other._hands) > MOST_HANDS:
            raise BadHands(-1)
        check_nothing_shared(self, other)
        by = len(self._hands)
        bars = without_repeats(self._bars + moved(other._bars, by))
        faults = {**self._faults, **other._faults}
        moved_secrets = {name: moved(other._secrets[name], by) for name in other._secrets}
        secrets = {**self._secrets, **moved_secrets}
        check_joined_limits(bars, faults, secrets)
        return Works(
            self._hands + other._hands,
            bars=patterns_of(bars),
            faults=faults,
            secrets=patterns_of_secrets(secrets),
            diligent=self._diligent + tuple([at + by for at in other._diligent]),
        )

    @property
    def hands(self):
        return self._hands

    @property
    def words(self):
        return list(self._words)

    @property
    def faults(self):
        return names_of_faults(self._faults)

    @property
    def secrets(self):
        return sorted(self._secrets)

    @property
    def diligent(self):
        return self._diligent

    def standings(self):
        return sorted(self._moves)

    def kept(self):
        return list(self._kept)

    def moves(self, standing):
        check_standing(standing, self._moves)
        return list(self._moves[standing])

    def kept_moves(self, standing):
        check_standing(standing, self._moves)
        return list(self._kept_moves[standing])

    def is_barred(self, standing):
        check_standing(standing, self._moves)
        return self._barred[standing]

    def is_secret(self, name, standing):
        if not is_name(name) or name not in self._secrets:
            raise BadName(name)
        check_standing(standing, self._moves)
        return agrees_with_one(standing, self._secrets[name])

    def fault_of(self, word):
        if not is_name(word) or word not in self._words:
            raise BadWord(word)
        return self._faults.get(word)

    def bar_patterns(self):
        """The bars in the order given."""
        return patterns_of(self._bars)

    def secret_patterns(self, name):
        """The patterns of one of the secrets in the order given."""
        return patterns_of(self._secrets[name])

    def renamed(self, names):
        check_new_words(names, self._words)
        return Works(
            [Hand(hand.start, renamed_steps(hand.steps, names)) for hand in self._hands],
            bars=patterns_of(self._bars),
            faults={names.get(word, word): self._faults[word] for word in self._faults},
            secrets=patterns_of_secrets(self._secrets),
            diligent=self._diligent,
        )


def kept_table(table):
    """A copy of a dict, an empty one for None."""
    return {} if table is None else dict(table)


def kept_part(moves, barred):
    """Of a dict from standings to moves the moves that are kept, at all of these standings."""
    return {
        standing: [move for move in moves[standing] if not barred[standing] and not barred[move[1]]]
        for standing in moves
    }


def ordered_secrets(secrets):
    """The secrets, alike for the same patterns in any order."""
    return {name: sorted(set(secrets[name])) for name in secrets}


def patterns_of_secrets(secrets):
    return {name: patterns_of(secrets[name]) for name in secrets}


def renamed_steps(steps, names):
    return [(begin, names.get(word, word), end) for begin, word, end in steps]
