import copy
import unittest

from tests.things import is_plain_integer, raised, strange_things
from watchedworks.errors import BadStart, BadSteps
from watchedworks.hands import Hand

ONE = [(0, "a", 1)]


def many_steps(number):
    return [(state, "a", state) for state in range(number)]


class Refused(unittest.TestCase):
    """[6] the errors of Hand."""

    def refuses_steps(self, steps, at):
        error = raised(Hand, 0, steps)
        self.assertIsInstance(error, BadSteps)
        self.assertEqual(error.at, at)

    def test_a_start_is_a_state(self):
        for thing in strange_things():
            if is_plain_integer(thing) and 0 <= thing <= 99:
                self.assertEqual(Hand(thing, ONE).start, thing)
            else:
                error = raised(Hand, thing, ONE)
                self.assertIsInstance(error, BadStart)
                self.assertIs(error.value, thing)

    def test_start_comes_first(self):
        for thing in strange_things():
            error = raised(Hand, 100, thing)
            self.assertIsInstance(error, BadStart)
            self.assertEqual(error.value, 100)

    def test_steps_are_a_row_of_1_to_20(self):
        for thing in strange_things():
            if not isinstance(thing, (list, tuple)) or len(thing) == 0:
                self.refuses_steps(thing, -1)
        self.refuses_steps(many_steps(21), -1)
        self.refuses_steps(["a"] * 21, -1)
        self.refuses_steps(dict.fromkeys(ONE), -1)
        self.assertEqual(len(Hand(0, many_steps(20)).steps), 20)
        self.assertEqual(len(Hand(0, many_steps(1)).steps), 1)

    def test_each_item_is_a_step(self):
        for thing in strange_things():
            if thing == (0, "a", 1):
                continue
            self.refuses_steps([thing], 0)
            self.refuses_steps([(5, "a", 1), (6, "a", 1), thing, None], 2)

    def test_each_part_of_a_step_is_judged(self):
        for thing in strange_things():
            if not is_plain_integer(thing) or not 0 <= thing <= 99:
                self.refuses_steps([(thing, "a", 1)], 0)
                self.refuses_steps([(1, "a", thing)], 0)
            if not isinstance(thing, str) or thing not in ("a", "b", "z", "abcdefghij"):
                self.refuses_steps([(1, thing, 1)], 0)

    def test_steps_at_the_edges(self):
        steps = ((0, "a", 99), (99, "z", 0), (0, "abcdefghij", 0))
        self.assertEqual(Hand(99, steps).steps, steps)
        self.refuses_steps([(0, "a", 100)], 0)
        self.refuses_steps([(100, "a", 0)], 0)
        self.refuses_steps([(-1, "a", 0)], 0)
        self.refuses_steps([(0, "abcdefghijk", 0)], 0)
        self.refuses_steps([(0, "", 0)], 0)
        self.refuses_steps([(0, "aB", 0)], 0)
        self.refuses_steps([(0, "a", True)], 0)
        self.refuses_steps([(False, "a", 1)], 0)
        self.refuses_steps([(0, "a", 1.0)], 0)
        self.refuses_steps([[0, "a", 1]], 0)
        self.refuses_steps([(0, "a")], 0)
        self.refuses_steps([(0, "a", 1, 1)], 0)
        self.refuses_steps([(0, b"a", 1)], 0)
        self.refuses_steps([(0, "a`", 1)], 0)
        self.refuses_steps([(0, "a{", 1)], 0)

    def test_no_step_twice(self):
        self.refuses_steps([(0, "a", 1), (0, "b", 1), (0, "a", 1)], 2)
        self.refuses_steps([(0, "a", 1), (0, "a", 1), "x"], 1)
        self.assertEqual(Hand(0, [(0, "a", 1), (0, "a", 2), (1, "a", 1)]).words, ["a"])

    def test_three_steps_from_a_state_but_not_four(self):
        three = [(0, "a", 1), (0, "a", 2), (0, "b", 1)]
        self.assertEqual(Hand(0, three + [(1, "a", 0)]).steps, tuple(three + [(1, "a", 0)]))
        self.refuses_steps(three + [(1, "a", 0), (0, "c", 1)], 4)
        self.refuses_steps(three + [(0, "c", 1), (0, "c", 1)], 3)
        self.refuses_steps([(9, "a", 9), "x", *three, (0, "c", 1)], 1)


class Told(unittest.TestCase):
    """[6] what a hand tells; [3] copies and new lists."""

    def setUp(self):
        self.steps = [(3, "stop", 0), (0, "go", 1), (1, "go", 3), (1, "ab", 1)]
        self.hand = Hand(7, self.steps)

    def test_what_was_passed(self):
        self.assertEqual(self.hand.start, 7)
        self.assertEqual(self.hand.steps, tuple(self.steps))
        self.assertIsInstance(self.hand.steps, tuple)
        self.assertEqual(self.hand.words, ["ab", "go", "stop"])
        self.assertIsInstance(self.hand.words, list)

    def test_a_tuple_counts_as_a_list(self):
        self.assertEqual(Hand(7, tuple(self.steps)).steps, self.hand.steps)
        self.assertEqual(Hand(7, tuple(self.steps)), self.hand)

    def test_the_row_may_change_afterwards(self):
        before = copy.deepcopy(self.steps)
        self.steps.append((5, "late", 5))
        self.steps[0] = None
        self.assertEqual(self.hand.steps, tuple(before))
        self.assertEqual(self.hand.words, ["ab", "go", "stop"])
        self.assertEqual(self.hand, Hand(7, before))

    def test_the_row_is_not_changed(self):
        before = list(self.steps)
        Hand(7, self.steps)
        self.assertEqual(self.steps, before)

    def test_words_are_a_new_list(self):
        self.hand.words.append("more")
        self.hand.words.clear()
        self.assertEqual(self.hand.words, ["ab", "go", "stop"])
        self.assertIsNot(self.hand.words, self.hand.words)

    def test_a_start_without_steps_is_let(self):
        self.assertEqual(Hand(50, ONE).start, 50)

    def test_properties_are_not_assigned(self):
        for name in ["start", "steps", "words"]:
            with self.assertRaises(AttributeError):
                setattr(self.hand, name, 1)


class Equal(unittest.TestCase):
    """[6] when hands are equal."""

    def test_whatever_the_order_of_the_steps(self):
        steps = [(0, "a", 1), (1, "b", 0), (1, "a", 1), (0, "a", 0)]
        self.assertTrue(Hand(0, steps) == Hand(0, steps[::-1]))
        self.assertFalse(Hand(0, steps) != Hand(0, steps[::-1]))
        self.assertEqual(Hand(0, steps[::-1]).steps, tuple(steps[::-1]))

    def test_one_thing_changed(self):
        hand = Hand(0, [(0, "a", 1), (1, "b", 0)])
        others = [
            Hand(1, [(0, "a", 1), (1, "b", 0)]), Hand(0, [(0, "a", 1)]), Hand(0, [(0, "a", 1), (1, "b", 1)]),
            Hand(0, [(0, "a", 1), (1, "c", 0)]), Hand(0, [(0, "a", 1), (2, "b", 0)]),
            Hand(0, [(0, "a", 1), (1, "b", 0), (1, "b", 1)]),
        ]
        for other in others:
            self.assertTrue(hand != other)
            self.assertFalse(hand == other)
            self.assertFalse(other == hand)

    def test_no_other_thing_is_equal(self):
        hand = Hand(5, [(0, "a", 1)])
        for thing in strange_things():
            self.assertIs(hand == thing, False)
            self.assertIs(hand != thing, True)


if __name__ == "__main__":
    unittest.main()
