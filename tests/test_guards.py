import itertools
import random
import unittest

from tests import workings
from tests.chance import some_box, some_parts, some_set, some_works, turned, turned_box, turned_set
from tests.test_keeping import crane, crane_box, example_box, is_kept, keeps_by_estimates
from tests.test_works_told import plant
from tests.things import Refusing, is_plain_integer, strange_things
from watchedworks.boxes import Box
from watchedworks.errors import BadPost, BadRun, BadSet, BadSights
from watchedworks.guards import Guard
from watchedworks.hands import Hand
from watchedworks.instruments import Lock, Sensor
from watchedworks.works import Works

HUM, SMOKE = ("hum",), ("smoke",)


def cases(seed, number):
    chance = random.Random(seed)
    for _ in range(number):
        works = some_works(chance)
        box = some_box(chance, works, 6)
        yield chance, works, box, chance.choice([some_set(chance, box), box.names()])


def held_by_hand(works, box, chosen, post, standings):
    """The words that a post holds, where it thinks the works can be at these standings."""
    held = []
    for word in [*works.words, "other", "none"]:
        leads_on = any(word == told for standing in standings for told, _ in works.kept_moves(standing))
        if workings.can_hold(box, chosen, post, word) and not leads_on:
            held.append(word)
    return sorted(held)


def stopped_by_hand(works, box, chosen, run):
    for at, (word, _) in enumerate(run):
        for post in (0, 1):
            sights = workings.sights_of(box, chosen, post, run[:at])
            standings = workings.estimate(works, box, chosen, post, sights)
            if word in held_by_hand(works, box, chosen, post, standings):
                return at
    return None


class Example(Refusing):
    """[27] guards by hand."""

    def test_what_the_ear_tells(self):
        guard = Guard(plant(), example_box(), ["ear", "valve"])
        self.assertEqual(guard.estimate(0, ()), [(0,)])
        self.assertEqual(guard.estimate(0, (HUM,)), [(0,), (1,)])
        self.assertEqual(guard.estimate(0, (HUM, HUM)), [(0,), (1,), (2,)])
        self.assertEqual(guard.estimate(0, (HUM, SMOKE)), [])
        self.assertEqual(guard.estimate(0, ("hum",)), [])
        self.assertEqual(guard.estimate(1, ()), [(0,), (1,), (2,)])
        self.assertEqual(guard.estimate(1, (HUM,)), [])

    def test_what_is_held(self):
        guard = Guard(plant(), example_box(), ["eye", "valve"])
        for sights in [(), (SMOKE,), (SMOKE, SMOKE), (HUM,), (None,), (1, 2, 3)]:
            self.assertEqual(guard.held(0, sights), ["burst"])
            self.assertEqual(guard.held(1, sights), [])
        guard = Guard(crane(), crane_box(), ["eye", "hook", "brake"])
        up, down = ("up",), ("down",)
        self.assertEqual([guard.held(0, sights) for sights in [(), (up,), (down,), (up, down), (down, up), ("up",)]], [
            ["drop"], [], ["drop"], ["drop"], [], ["drop"],
        ])
        self.assertEqual(guard.held(1, ()), [])
        self.assertEqual(guard.held(1, (up,)), ["back"])

    def test_what_is_let(self):
        low, high, back = ("low", (2,)), ("high", (1,)), ("back", (0,))
        drop, fall = ("drop", (0,)), ("drop", (9,))
        for chosen in [["hook", "eye"], ["far", "rope"], ["far", "rope", "ear"], ["hook", "eye", "rope"]]:
            guard = Guard(crane(), crane_box(), chosen)
            for run, at in [
                ((), None), ((high, drop), None), ((low, fall), 1), ((high, drop, high, back, low, fall), 5),
                ((high, drop, high, drop), None), ((low, back), None),
            ]:
                self.assertEqual(guard.stopped(run), at)
                self.assertIs(guard.lets(run), at is None)
        guard = Guard(crane(), crane_box(), ["hook", "ear"])
        self.assertIs(guard.lets((low, fall)), True)
        self.assertIsNone(guard.stopped((low, fall)))

    def test_behind_a_move_that_is_not_kept(self):
        """A post sees there what no kept run shows: it holds all that it can hold."""
        works = Works([Hand(0, [(0, "a", 0), (0, "b", 1), (1, "c", 1), (1, "a", 1)])], bars=[{0: 1}])
        box = Box([Sensor("eye", 0, {"c": "s"}, 1), Lock("hold", 0, ["a"], 1), Lock("far", 1, ["c"], 1)])
        guard = Guard(works, box, ["eye", "hold"])
        a, b, c, again = ("a", (0,)), ("b", (1,)), ("c", (1,)), ("a", (1,))
        self.assertEqual(guard.estimate(0, (("s",),)), [])
        self.assertEqual(guard.held(0, (("s",),)), ["a"])
        self.assertEqual(guard.held(0, ()), [])
        self.assertIsNone(guard.stopped((a, b, again, again)))
        self.assertEqual(guard.stopped((a, b, c, again)), 3)
        self.assertIsNone(guard.stopped((a, b, c, c)))
        self.assertEqual(Guard(works, box, ["far"]).stopped((b, c)), 1)
        self.assertIsNone(Guard(works, box, ["far"]).stopped((a, b)))

    def test_words_that_the_works_does_not_have_are_held(self):
        box = Box([Lock("lock", 0, ["zz", "start", "aa"], 1)])
        self.assertEqual(Guard(plant(), box, ["lock"]).held(0, ()), ["aa", "zz"])
        self.assertEqual(Guard(plant(), box, ["lock"]).held(0, (HUM,)), ["aa", "start", "zz"])
        self.assertEqual(Guard(plant(), box, []).held(0, ()), [])


class Compared(unittest.TestCase):
    """[27], [28] against the tests' own workings."""

    def test_estimates_and_held_words(self):
        empty = 0
        for chance, works, box, chosen in cases(271, 60):
            guard = Guard(works, box, chosen)
            runs = workings.runs_up_to(works, 3, works.moves)
            for post in (0, 1):
                rows = {workings.sights_of(box, chosen, post, run) for run in chance.sample(runs, min(len(runs), 15))}
                for sights in [*rows, *[row + row[::-1] for row in rows], (("s",),), (("t",), ("s",)), (("zz",),)]:
                    expected = workings.estimate(works, box, chosen, post, sights)
                    empty += not expected
                    self.assertEqual(guard.estimate(post, sights), sorted(expected))
                    self.assertEqual(guard.held(post, sights), held_by_hand(works, box, chosen, post, expected))
        self.assertGreater(empty, 20)

    def test_the_ends_of_short_kept_runs_are_in_the_estimate(self):
        for _, works, box, chosen in cases(272, 40):
            guard = Guard(works, box, chosen)
            for run in workings.runs_up_to(works, 3, works.kept_moves):
                for post in (0, 1):
                    sights = workings.sights_of(box, chosen, post, run)
                    self.assertIn(workings.end(works, run), guard.estimate(post, sights))

    def test_what_is_let_and_where_it_stops(self):
        stops = 0
        for _, works, box, chosen in cases(273, 40):
            guard = Guard(works, box, chosen)
            for run in workings.runs_up_to(works, 3, works.moves):
                expected = stopped_by_hand(works, box, chosen, run)
                stops += expected is not None
                self.assertEqual(guard.stopped(run), expected)
                self.assertIs(guard.lets(run), expected is None)
        self.assertGreater(stops, 50)

    def test_a_guard_lets_every_kept_run_and_no_other_if_the_set_keeps_the_works(self):
        """[28]"""
        kept, stops = 0, 0
        for _, works, box, chosen in cases(274, 120):
            guard = Guard(works, box, chosen)
            keeps = keeps_by_estimates(works, box, chosen)
            kept += keeps
            for run in workings.runs_up_to(works, 3, works.moves):
                if is_kept(works, run):
                    self.assertIs(guard.lets(run), True)
                elif keeps:
                    stops += 1
                    self.assertIs(guard.lets(run), False)
        self.assertGreater(kept, 20)
        self.assertGreater(stops, 50)

    def test_guards_of_greater_sets_let_the_same(self):
        """[28]"""
        same = 0
        for chance, works, box, chosen in cases(275, 120):
            few = [name for name in chosen if chance.random() < 0.7]
            if len(few) < len(chosen) and keeps_by_estimates(works, box, few):
                one, other = Guard(works, box, few), Guard(works, box, chosen)
                for run in workings.runs_up_to(works, 3, works.moves):
                    same += 1
                    self.assertIs(one.lets(run), other.lets(run))
        self.assertGreater(same, 100)

    def test_long_runs(self):
        guard = Guard(crane(), crane_box(), ["hook", "eye"])
        round_ = (("high", (1,)), ("drop", (0,)), ("low", (2,)), ("back", (0,)))
        self.assertIs(guard.lets(round_ * 500), True)
        self.assertEqual(guard.stopped(round_ * 500 + (("low", (2,)), ("drop", (9,)))), 2001)
        self.assertEqual(guard.estimate(0, (("up",),) * 2000), [(0,), (1,)])


class Refused(Refusing):
    """[27] the errors."""

    def guard(self):
        return Guard(plant(), example_box(), ["ear", "valve"])

    def test_sets(self):
        for thing in strange_things():
            if not isinstance(thing, (list, tuple)):
                self.refuses(BadSet, thing, Guard, plant(), example_box(), thing)
            self.refuses(BadSet, thing, Guard, plant(), example_box(), [thing])
            self.refuses(BadSet, thing, Guard, plant(), example_box(), ("ear", "eye", thing, "ear"))
        self.refuses(BadSet, "ear", Guard, plant(), example_box(), ["ear", "eye", "ear"])

    def test_posts_come_ahead_of_sights(self):
        for call in [self.guard().estimate, self.guard().held]:
            for thing in [*strange_things(), "both", 2, -1]:
                if not (is_plain_integer(thing) and thing in (0, 1)):
                    self.refuses(BadPost, thing, call, thing, None)
                    self.refuses(BadPost, thing, call, thing, ())

    def test_sights_are_a_tuple(self):
        for call in [self.guard().estimate, self.guard().held]:
            for thing in [*strange_things(), [HUM], list(HUM)]:
                for post in (0, 1):
                    if not isinstance(thing, tuple):
                        self.refuses(BadSights, thing, call, post, thing)

    def test_items_of_any_kind(self):
        guard = self.guard()
        for thing in [*strange_things(), ["hum"], ("hum", None), (None,), None, (b"hum",), "hum", (HUM,), {"hum"}]:
            for sights in [(thing,), (HUM, thing), (thing, HUM), (thing,) * 50]:
                for post in (0, 1):
                    self.assertEqual(guard.estimate(post, sights), [])
                    self.assertEqual(guard.held(post, sights), [["burst"], []][post])

    def test_runs(self):
        guard = self.guard()
        start, slip, burst = ("start", (1,)), ("slip", (2,)), ("burst", (3,))
        for call in [guard.lets, guard.stopped]:
            for thing in [*strange_things(), [start], [start, slip]]:
                if not isinstance(thing, tuple):
                    self.refuses(BadRun, -1, call, thing)
                self.refuses(BadRun, 0, call, (thing,))
                self.refuses(BadRun, 2, call, (start, slip, thing, None))
                self.refuses(BadRun, 3, call, (start, slip, burst, thing))
            self.refuses(BadRun, 1, call, (start, burst))
            self.refuses(BadRun, 0, call, (("start", (True,)),))
        self.assertEqual(guard.stopped((start, slip, burst)), 2)


class Same(unittest.TestCase):
    """[3] copies, new lists, equal arguments."""

    def test_what_was_passed_may_be_changed(self):
        chosen = ["ear"]
        guard = Guard(plant(), example_box(), chosen)
        chosen.append("valve")
        chosen[0] = "eye"
        self.assertEqual(guard.held(0, ()), [])
        self.assertEqual(guard.estimate(0, (HUM,)), [(0,), (1,)])

    def test_nothing_changes(self):
        guard = Guard(crane(), crane_box(), ["hook", "eye"])
        for call in [lambda: guard.estimate(0, ()), lambda: guard.held(0, ()), lambda: guard.estimate(1, ())]:
            first = call()
            self.assertIs(type(first), list)
            call().clear()
            call().append("more")
            self.assertEqual(call(), first)
        run = (("low", (2,)), ("drop", (9,)))
        self.assertEqual([guard.stopped(run), guard.stopped(run[:1]), guard.stopped(run)], [1, None, 1])

    def test_equal_arguments(self):
        chance = random.Random(276)
        for _ in range(40):
            parts = some_parts(chance)
            works = Works(**parts)
            box = some_box(chance, works, 6)
            chosen = some_set(chance, box)
            one = Guard(works, box, chosen)
            other = Guard(turned(chance, parts), turned_box(chance, box), turned_set(chance, chosen))
            for run in workings.runs_up_to(works, 2, works.moves):
                self.assertEqual(one.stopped(run), other.stopped(run))
                for post in (0, 1):
                    sights = workings.sights_of(box, chosen, post, run)
                    self.assertEqual(one.estimate(post, sights), other.estimate(post, sights))
                    self.assertEqual(one.held(post, sights), other.held(post, sights))

    def test_all_sets_of_a_box(self):
        names = crane_box().names()
        for many in range(len(names) + 1):
            for chosen in itertools.combinations(names, many):
                guard = Guard(crane(), crane_box(), chosen)
                for post in (0, 1):
                    self.assertEqual(
                        guard.estimate(post, ()), sorted(workings.estimate(crane(), crane_box(), chosen, post, ())),
                    )


if __name__ == "__main__":
    unittest.main()
