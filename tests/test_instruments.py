import copy
import itertools
import unittest

from tests.things import Refusing, is_plain_integer, strange_things
from watchedworks.errors import BadCost, BadName, BadPost, BadSights, BadWords
from watchedworks.instruments import Lock, Sensor

LETTERS = "abcdefghijk"
SIGHTS = {"slip": "smoke", "start": "hum", "burst": "hum"}
WORDS = ["slip", "start", "burst"]


def is_a_name(thing):
    return isinstance(thing, str) and thing in ("a", "b", "z", "abcdefghij")


class Refused(Refusing):
    """[15] the errors of both, in their order."""

    def each_class(self):
        return [(Sensor, SIGHTS), (Lock, WORDS)]

    def test_names(self):
        for made, rest in self.each_class():
            for thing in [*strange_things(), "Eye", "eye ", "e1", "\u00e9ye", ("eye",), b"eye"]:
                if is_a_name(thing):
                    self.assertEqual(made(thing, 0, rest, 1).name, thing)
                else:
                    self.refuses(BadName, thing, made, thing, 0, rest, 1)

    def test_posts(self):
        for made, rest in self.each_class():
            for thing in [*strange_things(), "both", -1, 2]:
                if is_plain_integer(thing) and thing in (0, 1):
                    self.assertEqual(made("eye", thing, rest, 1).post, thing)
                else:
                    self.refuses(BadPost, thing, made, "eye", thing, rest, 1)

    def test_costs(self):
        for made, rest in self.each_class():
            for thing in [*strange_things(), 1000, 1001, 0, -1, 1, 500.0]:
                if is_plain_integer(thing) and 1 <= thing <= 1000:
                    self.assertEqual(made("eye", 1, rest, thing).cost, thing)
                else:
                    self.refuses(BadCost, thing, made, "eye", 1, rest, thing)

    def test_sights_are_a_dict_of_1_to_10_words(self):
        for thing in strange_things():
            if not (isinstance(thing, dict) and thing == {"a": "b"}):
                self.refuses(BadSights, thing, Sensor, "eye", 0, thing, 1)
        self.refuses(BadSights, list(SIGHTS.items()), Sensor, "eye", 0, list(SIGHTS.items()), 1)
        ten = dict.fromkeys(LETTERS[:10], "s")
        self.assertEqual(Sensor("eye", 0, ten, 1).sights, ten)
        self.refuses(BadSights, dict.fromkeys(LETTERS, "s"), Sensor, "eye", 0, dict.fromkeys(LETTERS, "s"), 1)
        self.refuses(BadSights, {}, Sensor, "eye", 0, {}, 1)

    def test_each_word_and_each_sight_is_a_name(self):
        for thing in strange_things():
            if not is_a_name(thing):
                wrong = {"slip": "smoke", "start": thing, "stop": "hum"}
                self.refuses(BadSights, wrong, Sensor, "eye", 0, wrong, 1)
        for key in ["", "A", "abcdefghijk", "\ud800", None, 0, True, 1.5, b"slip", ("slip",), (), len]:
            wrong = {"slip": "smoke", key: "hum"}
            self.refuses(BadSights, wrong, Sensor, "eye", 0, wrong, 1)

    def test_words_are_a_row_of_1_to_10(self):
        for thing in strange_things():
            if not (isinstance(thing, (list, tuple)) and len(thing) == 1 and is_a_name(thing[0])):
                self.refuses(BadWords, thing, Lock, "eye", 0, thing, 1)
        for wrong in [[], (), {"slip": 1}, {"slip"}, "slip", LETTERS, list(LETTERS), tuple(LETTERS)]:
            self.refuses(BadWords, wrong, Lock, "eye", 0, wrong, 1)
        self.assertEqual(Lock("eye", 0, list(LETTERS[:10]), 1).words, list(LETTERS[:10]))

    def test_each_word_is_a_name_and_none_is_there_twice(self):
        for thing in strange_things():
            if not is_a_name(thing):
                wrong = ["slip", thing, "stop"]
                self.refuses(BadWords, wrong, Lock, "eye", 0, wrong, 1)
        for wrong in [["a", "a"], ("slip", "stop", "slip"), ["a", "b", "c", "b"]]:
            self.refuses(BadWords, wrong, Lock, "eye", 0, wrong, 1)

    def test_the_order_of_the_errors(self):
        for wrong in strange_things():
            if is_a_name(wrong) or is_plain_integer(wrong) or wrong in [{"a": "b"}, ["a"], ("a",)]:
                continue
            for made, rest, error in [(Sensor, SIGHTS, BadSights), (Lock, WORDS, BadWords)]:
                self.refuses(BadName, wrong, made, wrong, 2, None, 0)
                self.refuses(BadPost, wrong, made, "eye", wrong, None, 0)
                self.refuses(error, wrong, made, "eye", 1, wrong, 0)
                self.refuses(BadCost, wrong, made, "eye", 1, rest, wrong)


class Told(unittest.TestCase):
    """[15] the properties, and what becomes of what was passed."""

    def test_a_sensor(self):
        sensor = Sensor("eye", 1, SIGHTS, 7)
        self.assertEqual((sensor.name, sensor.post, sensor.cost), ("eye", 1, 7))
        self.assertEqual(sensor.sights, SIGHTS)
        self.assertEqual(list(sensor.sights), ["burst", "slip", "start"])
        self.assertEqual(sensor.words, ["burst", "slip", "start"])
        self.assertIs(type(sensor.words), list)
        self.assertIs(type(sensor.sights), dict)

    def test_a_lock(self):
        for row in [WORDS, tuple(WORDS)]:
            lock = Lock("valve", 0, row, 1000)
            self.assertEqual((lock.name, lock.post, lock.cost), ("valve", 0, 1000))
            self.assertEqual(lock.words, ["burst", "slip", "start"])
            self.assertIs(type(lock.words), list)
            self.assertFalse(hasattr(lock, "sights"))

    def test_what_is_told_is_new(self):
        sensor, lock = Sensor("eye", 1, SIGHTS, 7), Lock("valve", 0, WORDS, 1)
        sensor.sights.clear()
        sensor.sights["stop"] = "dark"
        sensor.words.clear()
        lock.words.append("stop")
        self.assertEqual(sensor, Sensor("eye", 1, SIGHTS, 7))
        self.assertEqual((sensor.sights, sensor.words), (SIGHTS, sorted(WORDS)))
        self.assertEqual(lock.words, sorted(WORDS))

    def test_what_was_passed_stays_and_may_be_changed(self):
        sights, words = dict(SIGHTS), list(WORDS)
        sensor, lock = Sensor("eye", 1, sights, 7), Lock("valve", 0, words, 1)
        self.assertEqual((sights, list(sights), words), (SIGHTS, list(SIGHTS), WORDS))
        sights["stop"] = "dark"
        del sights["slip"]
        words.append("stop")
        self.assertEqual(sensor.sights, SIGHTS)
        self.assertEqual(sensor, Sensor("eye", 1, SIGHTS, 7))
        self.assertEqual(lock, Lock("valve", 0, WORDS, 1))

    def test_properties_are_not_assigned(self):
        for one in [Sensor("eye", 1, SIGHTS, 7), Lock("valve", 0, WORDS, 1)]:
            for name in ["name", "post", "cost", "words"]:
                with self.assertRaises(AttributeError):
                    setattr(one, name, getattr(one, name))


class Equal(unittest.TestCase):
    """[15] when instruments are equal."""

    def is_equal(self, one, other, expected):
        self.assertIs(one == other, expected)
        self.assertIs(other == one, expected)
        self.assertIs(one != other, not expected)

    def test_in_any_order(self):
        for items in itertools.permutations(SIGHTS.items()):
            self.is_equal(Sensor("eye", 1, SIGHTS, 7), Sensor("eye", 1, dict(items), 7), True)
        for words in itertools.permutations(WORDS):
            self.is_equal(Lock("eye", 1, WORDS, 7), Lock("eye", 1, words, 7), True)
            self.is_equal(Lock("eye", 1, WORDS, 7), Lock("eye", 1, list(words), 7), True)

    def test_one_thing_changed(self):
        for made, rest, others in [
            (Sensor, SIGHTS, [{"slip": "smoke"}, {**SIGHTS, "slip": "hum"}, {**SIGHTS, "stop": "hum"},
                              {"slip": "hum", "start": "smoke", "burst": "hum"}]),
            (Lock, WORDS, [["slip"], ["slip", "start"], ["slip", "start", "stop"], [*WORDS, "stop"]]),
        ]:
            one = made("eye", 0, rest, 7)
            for other in [made("ear", 0, rest, 7), made("eye", 1, rest, 7), made("eye", 0, rest, 8),
                          *[made("eye", 0, changed, 7) for changed in others]]:
                self.is_equal(one, other, False)

    def test_of_one_class(self):
        self.is_equal(Sensor("eye", 0, dict.fromkeys(WORDS, "s"), 1), Lock("eye", 0, WORDS, 1), False)

    def test_no_other_thing_is_equal(self):
        for thing in strange_things():
            self.is_equal(Sensor("eye", 0, SIGHTS, 7), thing, False)
            self.is_equal(Lock("eye", 0, WORDS, 7), thing, False)

    def test_copies(self):
        for one in [Sensor("eye", 1, SIGHTS, 7), Lock("valve", 0, WORDS, 1)]:
            self.is_equal(one, copy.deepcopy(one), True)


if __name__ == "__main__":
    unittest.main()
