"""Works and boxes with just so many met triples.

A wheel of 3 states turns by a word that both posts see, a wheel of 10 states by one that neither sees: so the posts
always know the first state and nothing of the second, which makes 3 * 10 ** 3 met triples.
"""

from watchedworks.boxes import Box
from watchedworks.hands import Hand
from watchedworks.instruments import Lock, Sensor
from watchedworks.works import Works


def ring(many, word):
    return [(state, word, (state + 1) % many) for state in range(many)]


def works_of_3000(seen_steps=(), unseen_steps=(), **more):
    return Works([Hand(0, [*ring(3, "x"), *seen_steps]), Hand(0, [*ring(10, "z"), *unseen_steps])], **more)


def works_of_3001(seen_steps=(), unseen_steps=(), **more):
    """One standing more, at which all stop by a word that all see."""
    return works_of_3000([(2, "e", 7), *seen_steps], [(0, "e", 20), *unseen_steps], **more)


def box_of_3000():
    return Box([
        Sensor("left", 0, {"x": "turn", "e": "end"}, 1), Sensor("right", 1, {"x": "turn", "e": "end"}, 1),
        Lock("lefty", 0, ["f"], 1), Lock("righty", 1, ["f"], 1),
    ])


ALL_OF_3000 = ["left", "lefty", "right", "righty"]


def triples_of_3000():
    """All triples that are met, ascending."""
    return [
        ((x, run), (x, first), (x, second))
        for x in range(3) for run in range(10) for first in range(10) for second in range(10)
    ]


def triples_of_3001():
    return [*triples_of_3000(), ((7, 20), (7, 20), (7, 20))]
