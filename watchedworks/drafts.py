"""Drafts: what the lines of a text tell of a works and a box, line by line."""

from watchedworks.boxes import Box
from watchedworks.hands import Hand
from watchedworks.instruments import Lock, Sensor
from watchedworks.kinds import is_name
from watchedworks.numerals import is_numeral
from watchedworks.works import Works

MOST_DIGITS = 6

# The kinds of lines, as they come one behind the other; a step belongs to the hand ahead of it.
ORDER = {"hand": 0, "step": 0, "bar": 1, "fault": 2, "secret": 3, "diligent": 4, "sensor": 5, "lock": 5}


class Draft:
    """What is told so far."""

    def __init__(self):
        self._latest = 0
        self._hands = []
        self._bars = []
        self._faults = {}
        self._secrets = {}
        self._diligent = []
        self._instruments = []

    def takes(self, line):
        """Whether a line is right behind those that were taken; a draft that does not take one is of no more use."""
        kind, *rest = line.split(" ")
        if kind not in ORDER or ORDER[kind] < self._latest or not self._hands and kind != "hand":
            return False
        self._latest = ORDER[kind]
        if kind == "hand":
            return self._takes_hand(rest)
        if kind == "step":
            return self._takes_step(rest)
        if kind == "bar":
            return self._takes_bar(rest)
        if kind == "fault":
            return self._takes_fault(rest)
        if kind == "secret":
            return self._takes_secret(rest)
        if kind == "diligent":
            return self._takes_diligent(rest)
        return self._takes_instrument(kind, rest)

    def made(self):
        """The works and the box; the errors of their parts come in the order of the lines, those of the works first."""
        works = Works(
            [Hand(start, steps) for start, steps in self._hands],
            bars=self._bars,
            faults=self._faults,
            secrets=self._secrets,
            diligent=self._diligent,
        )
        return (works, Box([instrument_made(told) for told in self._instruments]))

    def _takes_hand(self, words):
        if len(words) != 1 or not is_number(words[0]):
            return False
        self._hands.append((int(words[0]), []))
        return True

    def _takes_step(self, words):
        if len(words) != 3 or not is_number(words[0]) or not is_name(words[1]) or not is_number(words[2]):
            return False
        self._hands[-1][1].append((int(words[0]), words[1], int(words[2])))
        return True

    def _takes_bar(self, words):
        pattern = pattern_of(words)
        if not pattern:
            return False
        self._bars.append(pattern)
        return True

    def _takes_fault(self, words):
        if len(words) != 2 or not is_name(words[0]) or not is_name(words[1]) or words[0] in self._faults:
            return False
        self._faults[words[0]] = words[1]
        return True

    def _takes_secret(self, words):
        pattern = pattern_of(words[1:])
        if not pattern or not is_name(words[0]):
            return False
        self._secrets.setdefault(words[0], []).append(pattern)
        return True

    def _takes_diligent(self, words):
        if self._diligent or not words or not all([is_number(word) for word in words]):
            return False
        self._diligent = [int(word) for word in words]
        return True

    def _takes_instrument(self, kind, words):
        if len(words) < 4 or not is_name(words[0]) or not is_number(words[1]) or not is_number(words[2]):
            return False
        items = sights_of(words[3:]) if kind == "sensor" else different_names(words[3:])
        if not items:
            return False
        self._instruments.append((kind, words[0], int(words[1]), items, int(words[2])))
        return True


def instrument_made(told):
    kind, name, post, items, cost = told
    return Sensor(name, post, items, cost) if kind == "sensor" else Lock(name, post, items, cost)


def is_number(text):
    return is_numeral(text, MOST_DIGITS)


def pattern_of(words):
    """The dict of pairs of numbers, None if these words are none or an index occurs twice."""
    pairs = pairs_written(words)
    if pairs is None or not all([is_number(at) and is_number(state) for at, state in pairs]):
        return None
    return table_of([(int(at), int(state)) for at, state in pairs])


def sights_of(words):
    """The dict of pairs of names, None if these words are none or a word occurs twice."""
    pairs = pairs_written(words)
    if pairs is None or not all([is_name(word) and is_name(sight) for word, sight in pairs]):
        return None
    return table_of(pairs)


def different_names(words):
    """The names, None if these words are none or one occurs twice."""
    return words if all([is_name(word) for word in words]) and len(set(words)) == len(words) else None


def pairs_written(words):
    """What stands on both sides of the sign between two, for each word; None if a word has no such sign, or several."""
    pairs = [tuple(word.split("=")) for word in words]
    return pairs if all([len(pair) == 2 for pair in pairs]) else None


def table_of(pairs):
    """A dict of the pairs, None if two of them have the same key."""
    table = dict(pairs)
    return table if len(table) == len(pairs) else None
