import copy
import itertools
import random
import unittest

from tests import workings
from tests.chance import some_box, some_set, some_works
from tests.test_works_told import plant
from tests.things import Refusing, is_plain_integer, strange_things
from watchedworks.boxes import Box, seen
from watchedworks.errors import BadInstrument, BadName, BadPost, BadRun, BadSet
from watchedworks.instruments import Lock, Sensor

EAR = Sensor("ear", 0, {"start": "hum", "slip": "hum"}, 2)
EYE = Sensor("eye", 0, {"slip": "smoke"}, 3)
VALVE = Lock("valve", 0, ["burst"], 1)
FAR = Sensor("far", 1, {"slip": "smoke", "stop": "still"}, 10)
BOLT = Lock("bolt", 1, ["stop", "burst", "none"], 20)
GATE = Lock("gate", 1, ["start", "burst"], 40)
ALL = [EAR, EYE, VALVE, FAR, BOLT, GATE]
NAMES = ["bolt", "ear", "eye", "far", "gate", "valve"]
OTHER = Lock("other", 1, ["slip"], 5)


def box():
    return Box(ALL)


def is_instrument(thing):
    return isinstance(thing, (Sensor, Lock))


class Made(Refusing):
    """[16] boxes and their errors."""

    def test_1_to_6(self):
        for many in range(1, 7):
            for kind in [list, tuple]:
                made = Box(kind(ALL[:many]))
                self.assertEqual(len(made), many)
                self.assertEqual(made.names(), sorted(one.name for one in ALL[:many]))

    def test_no_row_of_1_to_6(self):
        for thing in strange_things():
            if not isinstance(thing, (list, tuple)) or len(thing) == 0:
                self.refuses(BadInstrument, -1, Box, thing)
        for wrong in [[*ALL, OTHER], (*ALL, ALL[0]), ["x"] * 7, {0: EAR}, EAR, iter([EAR]), {"ear": EAR}]:
            self.refuses(BadInstrument, -1, Box, wrong)

    def test_the_first_item_that_is_none_or_has_an_earlier_name(self):
        for thing in strange_things():
            if not is_instrument(thing):
                self.refuses(BadInstrument, 0, Box, [thing])
                self.refuses(BadInstrument, 2, Box, (EAR, EYE, thing, EYE, None))
        self.refuses(BadInstrument, 1, Box, [EAR, EAR, None])
        self.refuses(BadInstrument, 3, Box, [VALVE, EAR, EYE, Lock("ear", 1, ["stop"], 9), EAR])
        self.refuses(BadInstrument, 5, Box, [*ALL[:5], Sensor("bolt", 1, {"a": "b"}, 1)])

    def test_what_was_passed_may_be_changed(self):
        row = [EAR, VALVE]
        made = Box(row)
        row[0] = EYE
        row.append(FAR)
        self.assertEqual(made, Box([EAR, VALVE]))
        self.assertEqual(made.names(), ["ear", "valve"])

    def test_names_are_new(self):
        made = box()
        made.names().clear()
        self.assertEqual(made.names(), NAMES)

    def test_instruments_by_name(self):
        for one in ALL:
            self.assertEqual(box()[one.name], one)
            self.assertIs(type(box()[one.name]), type(one))

    def test_no_instrument_of_this_name(self):
        for thing in [*strange_things(), "ea", "Ear", "other", ["ear"], ("ear",), b"ear", slice(0, 1)]:
            self.refuses(BadName, thing, lambda: box()[thing])

    def test_length_is_the_number(self):
        self.assertEqual([len(Box(ALL[:many])) for many in range(1, 7)], [1, 2, 3, 4, 5, 6])


class Changed(Refusing):
    """[16] one more, one less."""

    def test_one_more(self):
        one = Box(ALL[:3])
        self.assertEqual(one | FAR, Box(ALL[:4]))
        self.assertEqual((one | BOLT).names(), ["bolt", "ear", "eye", "valve"])
        self.assertEqual(one, Box(ALL[:3]))
        self.assertEqual(Box([EAR]) | EYE | VALVE | FAR | BOLT | GATE, box())

    def test_no_more(self):
        for thing in strange_things():
            if not is_instrument(thing):
                self.refuses(BadInstrument, 3, lambda: Box(ALL[:3]) | thing)
                self.refuses(BadInstrument, 6, lambda: box() | thing)
        self.refuses(BadInstrument, 6, lambda: box() | OTHER)
        self.refuses(BadInstrument, 6, lambda: box() | EAR)
        self.refuses(BadInstrument, 2, lambda: Box([EAR, EYE]) | EYE)
        self.refuses(BadInstrument, 1, lambda: Box([EAR]) | Lock("ear", 1, ["stop"], 9))
        self.refuses(BadInstrument, 2, lambda: Box([EAR, EYE]) | Box([VALVE]))

    def test_one_less(self):
        one = box()
        for at, instrument in enumerate(ALL):
            self.assertEqual(one - instrument.name, Box(ALL[:at] + ALL[at + 1:]))
        self.assertEqual(one, box())
        self.assertEqual(len(one - "ear" - "eye" - "far" - "bolt" - "gate"), 1)

    def test_no_less(self):
        for thing in [*strange_things(), "other", "Ear", ["ear"], EAR]:
            self.refuses(BadName, thing, lambda: box() - thing)
            self.refuses(BadName, thing, lambda: Box([EAR]) - thing)
        self.refuses(BadName, "ear", lambda: Box([EAR]) - "ear")
        self.refuses(BadName, "ear", lambda: box() - "ear" - "ear")


class Equal(unittest.TestCase):
    """[16] when boxes are equal."""

    def test_in_any_order(self):
        for row in itertools.permutations(ALL[:4]):
            self.assertIs(Box(row) == Box(ALL[:4]), True)
            self.assertIs(Box(row) != Box(ALL[:4]), False)

    def test_other_instruments(self):
        for other in [Box(ALL[:2]), Box(ALL[:4]), Box([EAR, EYE, Lock("valve", 0, ["stop"], 1)]),
                      Box([EAR, EYE, Lock("valve", 0, ["burst"], 2)]), Box([EAR, EYE, FAR]),
                      Box([EAR, EYE, Sensor("valve", 0, {"burst": "x"}, 1)])]:
            self.assertIs(Box(ALL[:3]) == other, False)
            self.assertIs(other == Box(ALL[:3]), False)

    def test_no_other_thing_is_equal(self):
        for thing in [*strange_things(), ALL, tuple(ALL), NAMES]:
            self.assertIs(box() == thing, False)
            self.assertIs(thing == box(), False)

    def test_copies(self):
        self.assertEqual(copy.deepcopy(box()), box())


class Sets(Refusing):
    """[17] sets, and what they cost."""

    def test_prices(self):
        cost = {one.name: one.cost for one in ALL}
        for many in range(7):
            for names in itertools.permutations(NAMES, many):
                self.assertEqual(box().price(names), sum(cost[name] for name in names))
        self.assertEqual(box().price([]), 0)
        self.assertEqual(box().price(["gate", "ear"]), 42)

    def test_what_is_passed_stays(self):
        names = ["valve", "ear", "bolt"]
        box().price(names)
        box().holds(names, 0)
        box().sight(names, 0, "slip")
        box().joint(names, "slip")
        seen(plant(), box(), names, "both", ())
        self.assertEqual(names, ["valve", "ear", "bolt"])

    def calls(self):
        """Each function with all its other arguments wrong."""
        return [
            lambda chosen: box().price(chosen),
            lambda chosen: box().sight(chosen, 2, "A"),
            lambda chosen: box().holds(chosen, 2),
            lambda chosen: box().joint(chosen, "A"),
            lambda chosen: seen(plant(), box(), chosen, 2, None),
        ]

    def test_no_row(self):
        for call in self.calls():
            for thing in [*strange_things(), {"ear": 1}, {"ear"}, "ear", EAR]:
                if not isinstance(thing, (list, tuple)):
                    self.refuses(BadSet, thing, call, thing)

    def test_the_first_wrong_name(self):
        for call in self.calls():
            for thing in [*strange_things(), "ea", "Ear", "other", EAR, ["ear"], ("ear", "eye")]:
                self.refuses(BadSet, thing, call, [thing])
                self.refuses(BadSet, thing, call, ("valve", "ear", thing, "valve", None))

    def test_a_name_twice(self):
        for call in self.calls():
            self.refuses(BadSet, "ear", call, ["ear", "ear"])
            self.refuses(BadSet, "eye", call, ("ear", "eye", "valve", "eye", "ear", "x"))
            self.refuses(BadSet, "bolt", call, NAMES + ["bolt"])

    def test_names_of_this_box_only(self):
        self.refuses(BadSet, "eye", Box([EAR]).price, ["ear", "eye"])


class Sights(Refusing):
    """[18] what a post sees and holds."""

    def test_sights_by_hand(self):
        one = Box([Sensor("zoom", 0, {"slip": "far"}, 1), *ALL[:5]])
        self.assertIsNone(one.sight([], 0, "slip"))
        self.assertIsNone(one.sight(["valve"], 0, "slip"))
        self.assertIsNone(one.sight(["far"], 0, "slip"))
        self.assertEqual(one.sight(["ear"], 0, "slip"), ("hum",))
        self.assertEqual(one.sight(["zoom", "eye", "ear"], 0, "slip"), ("hum", "smoke", "far"))
        self.assertEqual(one.sight(["zoom", "eye", "ear", "far", "valve"], 0, "start"), ("hum", None, None))
        self.assertIsNone(one.sight(["zoom", "eye", "ear"], 0, "stop"))
        self.assertEqual(one.sight(["zoom", "far", "ear"], 1, "stop"), ("still",))
        self.assertIsNone(one.sight(one.names(), 0, "never"))

    def test_joint_sights_by_hand(self):
        self.assertEqual(box().joint(NAMES, "slip"), (("hum", "smoke"), ("smoke",)))
        self.assertEqual(box().joint(NAMES, "start"), (("hum", None), None))
        self.assertEqual(box().joint(["far", "eye"], "stop"), (None, ("still",)))
        self.assertIsNone(box().joint(["valve", "eye"], "stop"))
        self.assertIsNone(box().joint(NAMES, "never"))

    def test_held_words_by_hand(self):
        self.assertEqual(box().holds(NAMES, 0), ["burst"])
        self.assertEqual(box().holds(NAMES, 1), ["burst", "none", "start", "stop"])
        self.assertEqual(box().holds(["gate"], 1), ["burst", "start"])
        self.assertEqual(box().holds(["gate"], 0), [])
        self.assertEqual(box().holds([], 1), [])

    def test_many_boxes(self):
        chance = random.Random(18)
        for _ in range(150):
            works = some_works(chance)
            one = some_box(chance, works, 6)
            chosen = some_set(chance, one)
            for word in [*works.words, "other", "never"]:
                for post in (0, 1):
                    self.assertEqual(one.sight(chosen, post, word), workings.sight(one, chosen, post, word))
                    self.assertEqual(word in one.holds(chosen, post), workings.can_hold(one, chosen, post, word))
                self.assertEqual(one.joint(chosen, word), workings.sight(one, chosen, "both", word))
            for post in (0, 1):
                held = one.holds(chosen, post)
                self.assertEqual(held, sorted(set(held)))

    def test_the_order_of_a_set_has_no_meaning(self):
        for names in itertools.permutations(["ear", "eye", "far", "bolt"]):
            self.assertEqual(box().sight(names, 0, "slip"), ("hum", "smoke"))
            self.assertEqual(box().holds(names, 1), ["burst", "none", "stop"])
            self.assertEqual(box().joint(list(names), "slip"), (("hum", "smoke"), ("smoke",)))

    def test_what_is_told_is_new(self):
        one = box()
        one.holds(NAMES, 1).clear()
        self.assertEqual(one.holds(NAMES, 1), ["burst", "none", "start", "stop"])

    def test_wrong_posts_come_ahead_of_wrong_words(self):
        for thing in [*strange_things(), "both", 2, -1]:
            if not (is_plain_integer(thing) and thing in (0, 1)):
                self.refuses(BadPost, thing, box().sight, ["ear"], thing, "A")
                self.refuses(BadPost, thing, box().sight, ["ear"], thing, "slip")
                self.refuses(BadPost, thing, box().holds, ["ear"], thing)

    def test_wrong_words(self):
        for thing in [*strange_things(), "Slip", "slip ", ["slip"]]:
            if not (isinstance(thing, str) and thing in ("a", "b", "z", "abcdefghij")):
                self.refuses(BadName, thing, box().sight, ["ear"], 1, thing)
                self.refuses(BadName, thing, box().sight, [], 0, thing)
                self.refuses(BadName, thing, box().joint, ["ear"], thing)


class Seen(Refusing):
    """[19] the sights of runs."""

    RUN = (("start", (1,)), ("slip", (2,)), ("stop", (0,)), ("start", (1,)), ("stop", (0,)))

    def test_by_hand(self):
        hum, still, smoke = ("hum",), ("still",), ("smoke",)
        self.assertEqual(seen(plant(), box(), ["ear"], 0, self.RUN), (hum, hum, hum))
        self.assertEqual(seen(plant(), box(), ["eye"], 0, self.RUN), (smoke,))
        self.assertEqual(seen(plant(), box(), ["ear"], 1, self.RUN), ())
        self.assertEqual(seen(plant(), box(), ["far", "ear"], 1, self.RUN), (smoke, still, still))
        self.assertEqual(seen(plant(), box(), ["far", "eye"], "both", self.RUN), (
            (smoke, smoke), (None, still), (None, still),
        ))
        self.assertEqual(seen(plant(), box(), ["ear", "eye"], "both", self.RUN), (
            (("hum", None), None), (("hum", "smoke"), None), (("hum", None), None),
        ))
        self.assertEqual(seen(plant(), box(), NAMES, "both", ()), ())
        self.assertEqual(seen(plant(), box(), [], "both", self.RUN), ())

    def test_many_runs(self):
        chance = random.Random(19)
        for _ in range(40):
            works = some_works(chance)
            one = some_box(chance, works)
            chosen = some_set(chance, one)
            for run in workings.runs_up_to(works, 3, works.moves):
                for post in (0, 1, "both"):
                    told = seen(works, one, chosen, post, run)
                    self.assertEqual(told, workings.sights_of(one, chosen, post, run))
                    self.assertIs(type(told), tuple)

    def test_runs_that_are_not_kept_are_seen(self):
        run = (*self.RUN[:2], ("burst", (3,)))
        self.assertEqual(seen(plant(), Box([Sensor("a", 1, {"burst": "bang"}, 1)]), ["a"], 1, run), (("bang",),))

    def test_wrong_posts_come_ahead_of_wrong_runs(self):
        for thing in [*strange_things(), "Both", "bot", 2, -1, ("both",)]:
            if not (is_plain_integer(thing) and thing in (0, 1)):
                self.refuses(BadPost, thing, seen, plant(), box(), ["ear"], thing, None)
                self.refuses(BadPost, thing, seen, plant(), box(), ["ear"], thing, ())

    def test_wrong_runs(self):
        for post in (0, 1, "both"):
            for thing in strange_things():
                if not isinstance(thing, tuple):
                    self.refuses(BadRun, -1, seen, plant(), box(), [], post, thing)
                self.refuses(BadRun, 0, seen, plant(), box(), [], post, (thing,))
                self.refuses(BadRun, 3, seen, plant(), box(), ["ear"], post, (*self.RUN[:3], thing, None))
            self.refuses(BadRun, 1, seen, plant(), box(), [], post, (self.RUN[0], ("stop", (False,))))

    def test_what_is_alike_jointly_is_alike_for_each(self):
        chance = random.Random(20)
        pairs = 0
        for _ in range(15):
            works = some_works(chance)
            one = some_box(chance, works)
            chosen = some_set(chance, one)
            runs = workings.runs_up_to(works, 2, works.kept_moves)
            for run, other in itertools.combinations(runs, 2):
                told = [
                    seen(works, one, chosen, post, run) == seen(works, one, chosen, post, other)
                    for post in ("both", 0, 1)
                ]
                if told[0]:
                    pairs += 1
                    self.assertTrue(told[1] and told[2])
        self.assertGreater(pairs, 20)

    def test_more_instruments_see_and_hold_more(self):
        """[20]"""
        chance = random.Random(21)
        alike = 0
        for _ in range(25):
            works = some_works(chance)
            one = some_box(chance, works)
            many = some_set(chance, one)
            few = [name for name in many if chance.random() < 0.6]
            runs = workings.runs_up_to(works, 2, works.moves)
            for post in (0, 1):
                self.assertTrue(set(one.holds(few, post)) <= set(one.holds(many, post)))
                for run, other in itertools.combinations(runs, 2):
                    if seen(works, one, many, post, run) == seen(works, one, many, post, other):
                        alike += 1
                        self.assertEqual(seen(works, one, few, post, run), seen(works, one, few, post, other))
        self.assertGreater(alike, 50)


if __name__ == "__main__":
    unittest.main()
