import random
import unittest

from tests.chance import some_works
from tests.test_works_told import mill, plant
from tests.things import Refusing, is_plain_integer, strange_things
from tests.workings import end, runs_up_to, start_of
from watchedworks.errors import BadRun, BadStanding
from watchedworks.hands import Hand
from watchedworks.runs import end_of, is_kept_run, is_run, way_to, words_of
from watchedworks.works import Works

SLIP = (("start", (1,)), ("slip", (2,)))


class Judged(unittest.TestCase):
    """[14] what is a run, and what is a kept run."""

    def judged(self, works, thing, run, kept):
        self.assertIs(is_run(works, thing), run)
        self.assertIs(is_kept_run(works, thing), kept)

    def test_runs_of_the_example(self):
        self.judged(plant(), (), True, True)
        self.judged(plant(), SLIP, True, True)
        self.judged(plant(), (*SLIP, ("stop", (0,)), ("start", (1,))), True, True)
        self.judged(plant(), (*SLIP, ("burst", (3,))), True, False)
        self.judged(plant(), (*SLIP, ("burst", (3,)), ("stop", (0,))), False, False)
        self.judged(plant(), SLIP[1:], False, False)
        self.judged(plant(), (*SLIP, SLIP[0]), False, False)

    def test_a_run_behind_a_bar_is_not_kept(self):
        lift, turn = ("lift", (1, 1)), ("turn", (2, 1))
        self.judged(mill(), (lift, turn, ("turn", (3, 0)), ("jam", (4, 0)), ("rest", (4, 0))), True, False)
        self.judged(mill(), (lift, ("turn", (2, 0))), True, False)
        self.judged(mill(), (lift, turn, ("turn", (1, 1))), True, True)

    def test_just_the_runs_of_many_works(self):
        chance = random.Random(5)
        for _ in range(30):
            works = some_works(chance)
            runs = set(runs_up_to(works, 3, works.moves))
            kept = set(runs_up_to(works, 3, works.kept_moves))
            self.assertTrue(kept <= runs)
            moves = [(word, standing) for word in works.words for standing in works.standings()]
            for run in sorted(runs):
                self.judged(works, run, True, run in kept)
                changed = (*run[:-1], chance.choice(moves))
                self.judged(works, changed, changed in runs, changed in kept)

    def test_long_runs(self):
        there_and_back = (("start", (1,)), ("stop", (0,)))
        self.judged(plant(), there_and_back * 5000, True, True)
        self.judged(plant(), there_and_back * 5000 + there_and_back[1:], False, False)

    def test_other_kinds_of_rows_and_moves(self):
        works = plant()
        for thing in [
            list(SLIP), [], [SLIP], (SLIP,), ("start", (1,)), ("start",), (("start", 1),), (("start", [1]),),
            (["start", (1,)],), (("start", (1,), 0),), (("start", (True,)),), (("start", (1.0,)),), ((b"start", (1,)),),
            (("start", (1, 0)),), (("start", ()),), (("start", (2,)),), (("halt", (1,)),), ((1, "start"),),
            ((0, "start", 1),), iter(SLIP), dict(SLIP), set(SLIP), (SLIP[0], list(SLIP[1])), ((["start"], (1,)),),
            (("start", ([1],)),), (("start", (None,)),), (((), ()),), "start",
        ]:
            self.judged(works, thing, False, False)
        self.judged(works, (("start", (1,)), ("stop", (False,))), False, False)

    def test_things_of_any_kind(self):
        for thing in strange_things():
            self.judged(plant(), thing, thing == (), thing == ())
            self.judged(plant(), (thing,), False, False)
            self.judged(plant(), (SLIP[0], thing), False, False)
            self.judged(plant(), (SLIP[0], ("slip", thing)), False, False)
            self.judged(plant(), (SLIP[0], (thing, (2,))), False, False)
            self.judged(plant(), (SLIP[0], ("slip", (thing,))), type(thing) is int and thing == 2,
                        type(thing) is int and thing == 2)


class Told(Refusing):
    """[14] the end and the words of a run."""

    def test_the_empty_run(self):
        self.assertEqual(end_of(plant(), ()), (0,))
        self.assertEqual(end_of(mill(), ()), (1, 0))
        self.assertEqual(words_of(plant(), ()), ())

    def test_runs_of_many_works(self):
        chance = random.Random(6)
        for _ in range(20):
            works = some_works(chance)
            for run in runs_up_to(works, 3, works.moves):
                self.assertEqual(end_of(works, run), end(works, run))
                self.assertEqual(words_of(works, run), tuple(word for word, _ in run))

    def test_runs_that_are_not_kept(self):
        run = (*SLIP, ("burst", (3,)))
        self.assertEqual(end_of(plant(), run), (3,))
        self.assertEqual(words_of(plant(), run), ("start", "slip", "burst"))

    def test_no_tuple(self):
        for thing in [*strange_things(), list(SLIP)]:
            if not isinstance(thing, tuple):
                self.refuses(BadRun, -1, end_of, plant(), thing)
                self.refuses(BadRun, -1, words_of, plant(), thing)

    def test_the_first_item_that_is_no_move_there(self):
        for call in [end_of, words_of]:
            self.refuses(BadRun, 0, call, plant(), (("stop", (0,)), *SLIP))
            for thing in [*strange_things(), ["start", (1,)], ("start", (2,)), ("start", [1])]:
                self.refuses(BadRun, 0, call, plant(), (thing,))
                self.refuses(BadRun, 0, call, plant(), (thing, *SLIP))
                self.refuses(BadRun, 2, call, plant(), (*SLIP, ("burst", thing), thing))
                self.refuses(BadRun, 4, call, plant(), (*SLIP, ("stop", (0,)), SLIP[0], thing, None, *SLIP))
            self.refuses(BadRun, 1, call, plant(), (("start", (1,)), ("stop", (False,))))
            self.refuses(BadRun, 2, call, plant(), (*SLIP, SLIP[1]))
            self.refuses(BadRun, 3, call, plant(), (*SLIP, ("burst", (3,)), ("burst", (3,))))


class Ways(Refusing):
    """[14] kept runs with the fewest moves."""

    def distances(self, works):
        """For each standing of a kept run the fewest moves, by a search over standings."""
        found, number = {start_of(works): 0}, 0
        while True:
            last = [standing for standing in found if found[standing] == number]
            number += 1
            more = {behind for standing in last for _, behind in works.kept_moves(standing)} - set(found)
            if not more:
                return found
            found.update(dict.fromkeys(more, number))

    def test_many_works(self):
        chance = random.Random(7)
        greatest = 0
        for _ in range(60):
            works = some_works(chance)
            distances = self.distances(works)
            self.assertEqual(sorted(distances), works.kept())
            for standing in works.kept():
                way = way_to(works, standing)
                self.assertTrue(is_kept_run(works, way))
                self.assertEqual(end(works, way), standing)
                self.assertEqual(len(way), distances[standing])
                greatest = max(greatest, len(way))
        self.assertGreater(greatest, 3)

    def test_the_start(self):
        self.assertEqual(way_to(plant(), (0,)), ())

    def test_sixty_standings(self):
        ring = Works([Hand(0, [(state, "a", (state + 1) % 20) for state in range(20)]), Hand(0, [
            (0, "b", 1), (1, "b", 2), (2, "b", 0),
        ])])
        self.assertEqual(len(way_to(ring, (19, 2))), 21)

    def test_a_bar_on_the_short_way(self):
        hand = Hand(0, [(0, "a", 1), (1, "a", 2), (0, "b", 3), (3, "b", 4), (4, "b", 2)])
        self.assertEqual(way_to(Works([hand]), (2,)), (("a", (1,)), ("a", (2,))))
        self.assertEqual(way_to(Works([hand], bars=[{0: 1}]), (2,)), (("b", (3,)), ("b", (4,)), ("b", (2,))))

    def test_equal_works_tell_the_same_way(self):
        steps = [(0, "a", 1), (0, "b", 1), (0, "a", 2), (1, "c", 3), (2, "c", 3)]
        self.assertEqual(
            way_to(Works([Hand(0, steps)]), (3,)), way_to(Works([Hand(0, steps[::-1])]), (3,)),
        )

    def test_no_kept_standings(self):
        others = [thing for thing in strange_things() if not (thing == (0,) and is_plain_integer(thing[0]))]
        self.assertEqual(len(others), len(strange_things()) - 1)
        for thing in [*others, (3,), (4,), [0], (True,), (0.0,), (0, 0), 0, "0"]:
            self.refuses(BadStanding, thing, way_to, plant(), thing)
        for standing in [(3, 0), (4, 0), (4, 1), (2, 0)]:
            self.assertIn(standing, mill().standings())
            self.refuses(BadStanding, standing, way_to, mill(), standing)


if __name__ == "__main__":
    unittest.main()
