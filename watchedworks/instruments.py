"""Instruments: sensors, through which a post sees words, and locks, with which it holds words back."""

from watchedworks.errors import BadCost, BadName, BadPost, BadSights, BadWords
from watchedworks.kinds import is_integer, is_name, is_post, is_row_of

MOST_WORDS_OF_AN_INSTRUMENT = 10
MOST_COST = 1000


class Sensor:
    """An instrument that shows a sight for each word that it sees."""

    def __init__(self, name, post, sights, cost):
        check_name(name)
        check_post(post)
        if not is_table_of_sights(sights):
            raise BadSights(sights)
        check_cost(cost)
        self._name = name
        self._post = post
        self._sights = {word: sights[word] for word in sorted(sights)}
        self._cost = cost

    def __eq__(self, other):
        return (
            isinstance(other, Sensor)
            and self._name == other._name
            and self._post == other._post
            and self._sights == other._sights
            and self._cost == other._cost
        )

    @property
    def name(self):
        return self._name

    @property
    def post(self):
        return self._post

    @property
    def sights(self):
        return dict(self._sights)

    @property
    def words(self):
        return list(self._sights)

    @property
    def cost(self):
        return self._cost


class Lock:
    """An instrument that can hold words."""

    def __init__(self, name, post, words, cost):
        check_name(name)
        check_post(post)
        if not is_row_of_words(words):
            raise BadWords(words)
        check_cost(cost)
        self._name = name
        self._post = post
        self._words = sorted(words)
        self._cost = cost

    def __eq__(self, other):
        return (
            isinstance(other, Lock)
            and self._name == other._name
            and self._post == other._post
            and self._words == other._words
            and self._cost == other._cost
        )

    @property
    def name(self):
        return self._name

    @property
    def post(self):
        return self._post

    @property
    def words(self):
        return list(self._words)

    @property
    def cost(self):
        return self._cost


def check_name(name):
    if not is_name(name):
        raise BadName(name)


def check_post(post):
    if not is_post(post):
        raise BadPost(post)


def check_cost(cost):
    if not is_integer(cost) or not 1 <= cost <= MOST_COST:
        raise BadCost(cost)


def is_table_of_sights(thing):
    if not isinstance(thing, dict) or not 1 <= len(thing) <= MOST_WORDS_OF_AN_INSTRUMENT:
        return False
    return all([is_name(word) and is_name(sight) for word, sight in thing.items()])


def is_row_of_words(thing):
    """Whether a thing is a row of words, none twice, as many as an instrument may have."""
    if not is_row_of(thing, 1, MOST_WORDS_OF_AN_INSTRUMENT) or not all([is_name(word) for word in thing]):
        return False
    return len(set(thing)) == len(thing)


def is_instrument(thing):
    return isinstance(thing, Sensor) or isinstance(thing, Lock)
