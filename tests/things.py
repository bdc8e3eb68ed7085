"""What several tests use: things of many kinds, and a look at what a call raises."""

import unittest

from watchedworks.boxes import Box
from watchedworks.desk import Desk
from watchedworks.errors import BadStart, TooMany, WorksError
from watchedworks.goodsets import good_sets
from watchedworks.guards import Guard
from watchedworks.hands import Hand
from watchedworks.instruments import Lock, Sensor
from watchedworks.works import Works


def nested(depth, wrap):
    thing = wrap(0)
    for _ in range(depth - 1):
        thing = wrap(thing)
    return thing


def strange_things():
    """Things of Python's built-in kinds, some nested 100 deep, and objects of the package."""
    hand = Hand(0, [(0, "a", 1), (1, "b", 0)])
    works = Works([hand], bars=[{0: 2}], faults={"a": "f"})
    sensor, lock = Sensor("a", 0, {"a": "b"}, 1), Lock("b", 1, ["a"], 2)
    box = Box([sensor, lock])
    deep_row = nested(100, lambda thing: [thing])
    deep_tuple = nested(100, lambda thing: (thing,))
    return [
        None, True, False, 0, 1, 2, 3, -1, 99, 100, 10 ** 5000, -(10 ** 5000),
        0.0, 1.0, -0.5, float("nan"), float("inf"), 1j, 0j,
        "", "a", "b", "z", "A", "a b", "a\n", "abcdefghij", "abcdefghijk", "\u00e9", "\u0430", "\ud800", "x" * 100000,
        b"", b"a", bytearray(b"a"), memoryview(b"a"),
        [], [None], [0], [[]], ["a"], [0, "a", 1], [(0, "a", 1)], [True], [hand],
        (), (None,), (0,), (0.0,), (True,), (1.0,), ((),), (0, "a", 1), (0, 0), (0, 0, 0), ("a",), ([],), (hand,),
        {}, {0: 0}, {0: 1}, {"a": "b"}, {None: None}, {True: 1}, {0: True}, {0.0: 1}, {"a": []}, {(): 0}, {"a": {}},
        set(), {1}, {"a"}, frozenset(), frozenset([0]),
        range(0), range(2), slice(1), Ellipsis, NotImplemented, len, int, strange_things, object(),
        iter([]), (k for k in ()), zip([], []), {0: 1}.items(), ValueError("a"),
        deep_row, deep_tuple, nested(100, lambda thing: {0: thing}), {deep_tuple: deep_row},
        nested(100, lambda thing: frozenset([thing])), [deep_row] * 3, (deep_tuple,) * 3,
        hand, works, WorksError(), TooMany(60), BadStart(hand), Hand, Works, sensor, lock, box,
        Guard(works, box, ["a"]), Box, Sensor, [box], (sensor, lock), [works, box], {"a": box},
        Desk(works, box), Desk(works, box).trial(), [Desk(works, box)], good_sets(works, box, [("kept",)]), good_sets,
    ]


def is_plain_integer(thing):
    return type(thing) is int


def raised(call, *places, **names):
    """The error of the package that a call raises, or None."""
    try:
        call(*places, **names)
    except WorksError as error:
        return error
    return None


class Refusing(unittest.TestCase):
    def refuses(self, error_class, kept, call, *places, **names):
        """The call raises this error, which keeps just this, or a thing that is equal and of the same class."""
        error = raised(call, *places, **names)
        self.assertIs(error.__class__, error_class)
        told, = vars(error).values()
        if told is not kept:
            self.assertIs(told.__class__, kept.__class__)
            self.assertEqual(told, kept)
