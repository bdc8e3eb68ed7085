import copy
import inspect
import random
import unittest

from tests.chance import some_box, some_set, some_whole_parts, some_wishes, turned, turned_box, turned_set
from tests.judging import flags_of, greatest, least, sets_of, without
from tests.nets import box_of_3000, works_of_3001
from tests.test_hiding import box_of_500, works_of_501
from tests.test_keeping import crane, crane_box, example_box
from tests.test_surely import SEEN_OF_1000, works_of_1000
from tests.test_works_told import plant
from tests.things import Refusing, raised, strange_things
from watchedworks.boxes import Box
from watchedworks.errors import BadSet, BadWishes, NotGood, TooMany
from watchedworks.goodsets import (
    cheapest, good_sets, greatest_good, is_good, least_good, least_robust, robust_sets, spare, why_not,
)
from watchedworks.hands import Hand
from watchedworks.instruments import Lock, Sensor
from watchedworks.wishes import fulfils, is_against
from watchedworks.works import Works

WISHES = [("kept",), ("told", "wear", 0), ("hidden", "hot", False)]


def cases(seed, number):
    chance = random.Random(seed)
    for _ in range(number):
        works = Works(**some_whole_parts(chance))
        while len(works.kept()) > 7:
            works = Works(**some_whole_parts(chance))
        box = some_box(chance, works, chance.choice([3, 4, 4, 5, 6]))
        yield chance, works, box, some_wishes(chance, works, box)


def all_good(works, box, wishes):
    return list(good_sets(works, box, wishes))


def lights():
    """A works with a lamp that is seen, and one that is to stay unseen; four sensors see them in several ways."""
    hands = [Hand(0, [(0, "red", 1), (1, "off", 0)]), Hand(0, [(0, "blue", 1), (1, "out", 0)])]
    return Works(hands, faults={"red": "alarm"}, secrets={"blue": [{1: 1}]}, diligent=[0])


def lights_box(costs=(3, 2, 5, 4, 1, 1)):
    sights = [
        {"red": "r"}, {"red": "r", "off": "o"}, {"red": "r", "off": "o", "blue": "b", "out": "n"},
        {"blue": "b", "out": "n"},
    ]
    sensors = [Sensor(name, at % 2, sights[at], costs[at]) for at, name in enumerate(["sa", "sb", "sc", "sd"])]
    return Box([*sensors, Lock("la", 0, ["red"], costs[4]), Lock("lb", 1, ["none"], costs[5])])


SEEN = [("told", "alarm", 0), ("hidden", "blue", False)]


class Example(Refusing):
    """What the example says of good sets, and more by hand."""

    def test_the_example(self):
        self.assertEqual(least_good(plant(), example_box(), WISHES), [("eye", "valve")])
        self.assertEqual(greatest_good(plant(), example_box(), WISHES), [("ear", "eye", "valve")])
        self.assertEqual(cheapest(plant(), example_box(), WISHES), (4, [("eye", "valve")]))
        self.assertEqual(all_good(plant(), example_box(), WISHES), [("eye", "valve"), ("ear", "eye", "valve")])
        self.assertEqual(robust_sets(plant(), example_box(), WISHES), [])
        self.assertEqual(least_robust(plant(), example_box(), WISHES), [])
        self.assertEqual(spare(plant(), example_box(), WISHES, ["eye", "valve", "ear"]), ("ear",))
        self.assertEqual(spare(plant(), example_box(), WISHES, ["eye", "valve"]), ())
        for chosen in sets_of(example_box()):
            self.assertIs(is_good(plant(), example_box(), WISHES, chosen), {"eye", "valve"} <= set(chosen))

    def test_why_not(self):
        at, thing = why_not(plant(), example_box(), WISHES, ["eye"])
        self.assertEqual((at, thing[0]), (0, "burst"))
        at, thing = why_not(plant(), example_box(), WISHES, ("valve", "ear"))
        self.assertIs(is_against(plant(), example_box(), ("ear", "valve"), WISHES[1], thing), True)
        self.assertEqual(at, 1)
        self.assertEqual(why_not(plant(), example_box(), WISHES[::-1], ["ear"])[0], 1)
        self.assertIsNone(why_not(plant(), example_box(), WISHES, ["eye", "valve"]))

    def test_no_set_is_good(self):
        wishes = [("warned", "wear", 0)]
        for call in (least_good, greatest_good, robust_sets, least_robust, all_good):
            self.assertEqual(call(plant(), example_box(), wishes), [])
        self.assertIsNone(cheapest(plant(), example_box(), wishes))
        self.assertIs(is_good(plant(), example_box(), wishes, example_box().names()), False)
        for at, chosen in enumerate(sets_of(example_box())):
            self.refuses(NotGood, 0, spare, plant(), example_box(), [wishes[0], ("kept",)], chosen)

    def test_all_sets_are_good(self):
        wishes, box = [("sure", ("slip",), ("stop",))], example_box()
        self.assertEqual(all_good(plant(), box, wishes), sets_of(box))
        self.assertEqual(robust_sets(plant(), box, wishes), sets_of(box))
        self.assertEqual((least_good(plant(), box, wishes), greatest_good(plant(), box, wishes)), (
            [()], [("ear", "eye", "valve")],
        ))
        self.assertEqual((cheapest(plant(), box, wishes), least_robust(plant(), box, wishes)), ((0, [()]), [()]))
        self.assertEqual(spare(plant(), box, wishes, ()), ())
        self.assertEqual(spare(plant(), box, wishes, ["valve", "ear"]), ("ear", "valve"))

    def test_the_empty_set(self):
        """[55] it is robust if it is good; a set with one instrument only if the empty one is good."""
        box = Box([Sensor("all", 0, {word: word for word in plant().words}, 7)])
        self.assertEqual(robust_sets(plant(), box, [("hidden", "hot", True)]), [()])
        self.assertEqual(robust_sets(plant(), box, [("told", "wear", 0)]), [])
        self.assertEqual(all_good(plant(), box, [("told", "wear", 0)]), [("all",)])
        self.assertEqual(spare(plant(), box, [("told", "wear", 0)], ["all"]), ())

    def test_upward_and_downward_together(self):
        box = lights_box()
        self.assertEqual(least_good(lights(), box, SEEN), [("sa",), ("sb",)])
        self.assertEqual(greatest_good(lights(), box, SEEN), [("la", "lb", "sa", "sb")])
        self.assertEqual(cheapest(lights(), box, SEEN), (2, [("sb",)]))
        self.assertEqual(robust_sets(lights(), box, SEEN), [
            ("sa", "sb"), ("la", "sa", "sb"), ("lb", "sa", "sb"), ("la", "lb", "sa", "sb"),
        ])
        self.assertEqual(least_robust(lights(), box, SEEN), [("sa", "sb")])
        self.assertEqual(spare(lights(), box, SEEN, ["sb", "lb", "la"]), ("la", "lb"))
        self.assertEqual(spare(lights(), box, SEEN, ["sb", "lb", "sa"]), ("lb", "sa", "sb"))
        self.refuses(NotGood, 1, spare, lights(), box, SEEN, ["sc"])
        self.refuses(NotGood, 0, spare, lights(), box, SEEN, ["sd"])
        self.refuses(NotGood, 0, spare, lights(), box, SEEN[::-1], ["sd"])
        self.refuses(NotGood, 1, spare, lights(), box, SEEN[::-1], ["lb"])

    def test_sets_of_equal_cost(self):
        for costs, expected in [
            ((3, 3, 9, 9, 9, 9), (3, [("sa",), ("sb",)])), ((3, 2, 2, 1, 1, 1), (2, [("sb",), ("sc",)])),
            ((4, 4, 3, 1, 1, 1), (3, [("sc",)])), ((1, 2, 3, 4, 5, 6), (1, [("sa",)])),
        ]:
            self.assertEqual(cheapest(lights(), lights_box(costs), SEEN[:1]), expected)
        box = Box([
            Sensor("ear", 1, {"high": "up", "low": "down"}, 3), Sensor("eye", 0, {"high": "up", "low": "down"}, 2),
            Lock("grip", 1, ["drop"], 2), Lock("hook", 0, ["drop"], 3),
        ])
        self.assertEqual(cheapest(crane(), box, [("kept",)]), (5, [("ear", "grip"), ("eye", "hook")]))

    def test_less_costly_with_more_instruments(self):
        """The cheapest sets ascend by their numbers ahead of their names."""
        hands = [Hand(0, [(0, "a", 1), (1, "b", 2)])]
        works = Works(hands, faults={"a": "one", "b": "two"})
        box = Box([
            Sensor("zz", 0, {"a": "a", "b": "b"}, 2), Sensor("aa", 0, {"a": "a"}, 1), Sensor("bb", 1, {"b": "b"}, 1),
        ])
        wishes = [("told", "one", 0), ("told", "two", 0)]
        self.assertEqual(cheapest(works, box, wishes), (2, [("zz",), ("aa", "bb")]))
        self.assertEqual(least_good(works, box, wishes), [("zz",), ("aa", "bb")])
        self.assertEqual(all_good(works, box, wishes), [
            ("zz",), ("aa", "bb"), ("aa", "zz"), ("bb", "zz"), ("aa", "bb", "zz"),
        ])
        self.assertEqual(robust_sets(works, box, wishes), [("aa", "bb", "zz")])


class Compared(Refusing):
    """[50] to [52], [55] all sets judged wish by wish by the tests' own workings."""

    def test_against_all_sets(self):
        some, robust, six = 0, 0, 0
        for chance, works, box, wishes in cases(50, 90):
            flags = flags_of(works, box, wishes)
            good = [chosen for chosen in flags if all(flags[chosen])]
            some += 0 < len(good) < len(flags)
            six += len(box) == 6
            self.assertEqual(all_good(works, box, wishes), good)
            self.assertEqual(least_good(works, box, wishes), least(good))
            self.assertEqual(greatest_good(works, box, wishes), greatest(good))
            costs = {chosen: sum(box[name].cost for name in chosen) for chosen in good}
            cost = min(costs.values(), default=None)
            expected = None if cost is None else (cost, [chosen for chosen in good if costs[chosen] == cost])
            self.assertEqual(cheapest(works, box, wishes), expected)
            sturdy = [chosen for chosen in good if all(without(chosen, name) in good for name in chosen)]
            robust += sturdy not in ([], good)
            self.assertEqual(robust_sets(works, box, wishes), sturdy)
            self.assertEqual(least_robust(works, box, wishes), least(sturdy))
            for chosen in chance.sample(list(flags), min(len(flags), 6)):
                self.check_one_set(works, box, wishes, chosen, flags[chosen], good)
        self.assertGreater(some, 20)
        self.assertGreater(robust, 4)
        self.assertGreater(six, 3)

    def check_one_set(self, works, box, wishes, chosen, flags, good):
        turned_chosen = list(chosen[::-1])
        self.assertIs(is_good(works, box, wishes, turned_chosen), all(flags))
        found = why_not(works, box, wishes, turned_chosen)
        if all(flags):
            self.assertIsNone(found)
            self.assertEqual(spare(works, box, wishes, turned_chosen), tuple(
                name for name in chosen if without(chosen, name) in good
            ))
        else:
            self.assertEqual(found[0], flags.index(False))
            self.assertIs(type(found), tuple)
            self.assertIs(is_against(works, box, chosen, wishes[found[0]], found[1]), True)
            self.refuses(NotGood, flags.index(False), spare, works, box, wishes, turned_chosen)

    def test_upper_and_lower_sets(self):
        """[51]"""
        for _, works, box, wishes in cases(51, 60):
            sets = sets_of(box)
            upper = [one for one in sets if all(fulfils(works, box, one, w) for w in wishes if w[0] != "hidden")]
            lower = [one for one in sets if all(fulfils(works, box, one, w) for w in wishes if w[0] == "hidden")]
            self.assertTrue(all(set(one) - set(two) or two in upper for one in upper for two in sets))
            self.assertTrue(all(set(two) - set(one) or two in lower for one in lower for two in sets))
            self.assertEqual(least_good(works, box, wishes), [one for one in least(upper) if one in lower])
            self.assertEqual(greatest_good(works, box, wishes), [one for one in greatest(lower) if one in upper])

    def test_wishes_together(self):
        """[56]"""
        dearer = 0
        for chance, works, box, wishes in cases(52, 60):
            more = list(some_wishes(chance, works, box, 6 - len(wishes)))
            joined = [*wishes, *more]
            both = [one for one in all_good(works, box, wishes) if one in all_good(works, box, more)]
            self.assertEqual(all_good(works, box, joined), both)
            if both:
                self.assertGreaterEqual(cheapest(works, box, joined)[0], cheapest(works, box, more)[0])
                dearer += cheapest(works, box, joined)[0] > cheapest(works, box, wishes)[0]
        self.assertGreater(dearer, 2)

    def test_the_same_wish_several_times(self):
        for _, works, box, wishes in cases(53, 15):
            again = (list(wishes) * 6)[:6]
            self.assertEqual(all_good(works, box, again), [
                one for one in sets_of(box) if all(fulfils(works, box, one, wish) for wish in again)
            ])


class Generator(Refusing):
    """[52] good_sets is a generator, whose errors come when the first item is asked for."""

    def test_it_is_a_generator(self):
        self.assertTrue(inspect.isgeneratorfunction(good_sets))
        found = good_sets(plant(), example_box(), WISHES)
        self.assertEqual(next(found), ("eye", "valve"))
        self.assertEqual(next(found), ("ear", "eye", "valve"))
        self.assertEqual(list(found), [])

    def test_errors_come_with_the_first_item(self):
        for wishes, at in [([], -1), (None, -1), ([("kept",), None], 1)]:
            found = good_sets(plant(), example_box(), wishes)
            self.refuses(BadWishes, at, next, found)
        found = good_sets(works_of_3001(), box_of_3000(), [("kept",)])
        self.refuses(TooMany, 3000, next, found)


class Refused(Refusing):
    """[17], [50], [52], [55] BadWishes, then BadSet, then TooMany, then NotGood."""

    def calls(self, works, box):
        """Functions of the wishes and the set; the first three take a set, only the first two of them are about it."""
        return [
            lambda wishes, chosen: is_good(works, box, wishes, chosen),
            lambda wishes, chosen: why_not(works, box, wishes, chosen),
            lambda wishes, chosen: spare(works, box, wishes, chosen),
            lambda wishes, chosen: all_good(works, box, wishes),
            lambda wishes, chosen: least_good(works, box, wishes),
            lambda wishes, chosen: greatest_good(works, box, wishes),
            lambda wishes, chosen: cheapest(works, box, wishes),
            lambda wishes, chosen: robust_sets(works, box, wishes),
            lambda wishes, chosen: least_robust(works, box, wishes),
        ]

    def crowded(self):
        """A works that has too many of all: triples, estimates and marked standings, each by other sets."""
        words = {"p": "p", "q": "q", "r": "r", "s": "s", "e": "e"}
        box = Box([
            Sensor("all", 0, words, 1), Sensor("every", 1, words, 1), Sensor("first", 0, {"p": "p"}, 1),
            Lock("hold", 0, ["p"], 1),
        ])
        base = works_of_501({"hot": [{0: 50}]})
        return Works(base.hands, secrets={"hot": [{0: 50}]}, faults={"e": "end", "q": "wear"}), box

    def test_rows_of_wishes_come_first(self):
        for call in self.calls(plant(), example_box()):
            for thing in [*strange_things(), [], (), [("kept",)] * 7, (("kept",),) * 7, ("kept",) * 7, "kept", {0: 1}]:
                if not (isinstance(thing, (list, tuple)) and 1 <= len(thing) <= 6):
                    self.refuses(BadWishes, -1, call, thing, None)
                else:
                    self.refuses(BadWishes, 0, call, thing, None)

    def test_the_first_wrong_wish(self):
        for works, box in [(plant(), example_box()), (works_of_3001(), box_of_3000())]:
            for call in self.calls(works, box):
                for thing in [*strange_things(), ("told", "none", 0), ("hidden", "none", True), ["kept"], ("told",)]:
                    self.refuses(BadWishes, 0, call, [thing], ["none"])
                    self.refuses(BadWishes, 2, call, (("kept",), ("kept",), thing, None), None)
                    self.refuses(BadWishes, 5, call, [("kept",)] * 5 + [thing], box.names())
        for wishes in [WISHES * 2, tuple(WISHES)]:
            for call in self.calls(plant(), example_box())[3:]:
                self.assertIsNone(raised(call, wishes, None))

    def test_sets_come_next(self):
        for works, box in [(plant(), example_box()), (works_of_3001(), box_of_3000())]:
            for call in self.calls(works, box)[:3]:
                for thing in strange_things():
                    if not isinstance(thing, (list, tuple)):
                        self.refuses(BadSet, thing, call, [("kept",)], thing)
                    self.refuses(BadSet, thing, call, [("kept",)], [box.names()[0], thing])
                self.refuses(BadSet, box.names()[0], call, [("kept",)], box.names()[:1] * 2)

    def limit_of(self, works, box, wish, chosen):
        error = raised(fulfils, works, box, chosen, wish)
        return None if error is None else error.limit

    def test_too_many_of_the_first_set_and_the_first_wish(self):
        works, box = self.crowded()
        wishes = [
            ("kept",), ("told", "wear", 0), ("hidden", "hot", False), ("hidden", "hot", True), ("warned", "end", 0),
            ("sure", ("p",), ("q",)),
        ]
        limits = {
            (chosen, wish): self.limit_of(works, box, wish, chosen) for chosen in sets_of(box) for wish in wishes
        }
        self.assertEqual({limit for limit in limits.values()}, {None, 500, 3000})
        firsts = set()
        chance = random.Random(54)
        rows = [[wish] for wish in wishes] + [chance.sample(wishes, chance.randrange(2, 5)) for _ in range(6)]
        for row in rows:
            found = [limits[(chosen, wish)] for chosen in sets_of(box) for wish in row]
            first = next((limit for limit in found if limit is not None), None)
            firsts.add(first)
            for at, call in enumerate(self.calls(works, box)):
                for chosen in [("first",), ("hold", "all"), ("all", "every")][at // 2:]:
                    asked = [limits[(tuple(sorted(chosen)), wish)] for wish in row]
                    expected = next((limit for limit in asked if limit is not None), None) if at < 2 else first
                    if expected is not None:
                        self.refuses(TooMany, expected, call, row, chosen)
                    elif at != 2:
                        self.assertIsNone(raised(call, row, chosen))
        self.assertEqual(firsts, {None, 500, 3000})

    def test_the_sets_come_ahead_of_the_wishes(self):
        """For the first wish the first set with too many triples has two instruments, for the second one it has one."""
        works, box = self.crowded()
        wishes = [("warned", "end", 0), ("hidden", "hot", False)]
        for call in self.calls(works, box)[2:]:
            self.refuses(TooMany, 500, call, wishes, ["first"])
            self.refuses(TooMany, 500, call, wishes[::-1], ["first"])
        for call in self.calls(works, box)[:2]:
            self.refuses(TooMany, 3000, call, wishes, ["all", "every"])
            self.refuses(TooMany, 500, call, wishes[::-1], ["all", "every"])

    def test_questions_with_too_many_marked_standings(self):
        hands = [Hand(0, [*hand.steps]) for hand in works_of_1000([(0, "y", 9)]).hands]
        works = Works(hands, faults={"x": "wear"}, bars=[])
        box = Box([Sensor("eye", 0, {"a": "s"}, 1)])
        sure = ("sure", tuple(SEEN_OF_1000), ())
        for wishes in [[("kept",), sure], [sure, ("kept",)], [("told", "wear", 0), sure]]:
            for call in self.calls(works, box):
                self.refuses(TooMany, 1000, call, wishes, ["eye"])

    def test_also_behind_a_wish_that_is_not_fulfilled(self):
        works, box = self.crowded()
        wishes = [("sure", ("p",), ("q",)), ("warned", "end", 5), ("hidden", "hot", False)]
        self.assertIs(fulfils(works, box, [], wishes[0]), False)
        self.assertIs(fulfils(works, box, ["all"], wishes[0]), False)
        for call in self.calls(works, box)[:2]:
            self.refuses(TooMany, 500, call, wishes[::2], ["all"])
            self.assertIsNone(raised(call, wishes[::2], ["first"]))
        for call in self.calls(works, box)[2:]:
            self.refuses(TooMany, 500, call, wishes[::2], ["first"])

    def test_not_good_comes_last(self):
        works, box = self.crowded()
        self.refuses(TooMany, 500, spare, works, box, [("sure", (), ()), ("hidden", "hot", True)], ["first"])
        self.refuses(NotGood, 0, spare, works, box, [("sure", (), ())], ["first"])
        self.refuses(NotGood, 1, spare, works, box, [("sure", ("none",), ()), ("sure", (), ())], ["first"])


class Same(unittest.TestCase):
    """[3], [61] equal arguments give equal values, and nothing that is passed changes."""

    def test_equal_arguments(self):
        chance = random.Random(55)
        for _ in range(40):
            parts = some_whole_parts(chance)
            works = Works(**parts)
            box = some_box(chance, works, 5)
            wishes = some_wishes(chance, works, box)
            chosen = some_set(chance, box)
            other = (turned(chance, parts), turned_box(chance, box), (list, tuple)[type(wishes) is list](wishes))
            for call in (all_good, least_good, greatest_good, cheapest, robust_sets, least_robust):
                self.assertEqual(call(works, box, wishes), call(*other))
            again = turned_set(chance, chosen)
            self.assertIs(is_good(works, box, wishes, chosen), is_good(*other, again))
            self.assertEqual(why_not(works, box, wishes, chosen), why_not(*other, again))
            if is_good(works, box, wishes, chosen):
                self.assertEqual(spare(works, box, wishes, chosen), spare(*other, again))

    def test_nothing_passed_is_changed(self):
        wishes, chosen = list(WISHES), ["valve", "eye"]
        for call in (all_good, least_good, greatest_good, robust_sets, least_robust):
            call(plant(), example_box(), wishes).clear()
        cheapest(plant(), example_box(), wishes)[1].clear()
        why_not(plant(), example_box(), wishes, chosen)
        spare(plant(), example_box(), wishes, chosen)
        self.assertEqual((wishes, chosen), (WISHES, ["valve", "eye"]))
        self.assertEqual(copy.deepcopy(cheapest(plant(), example_box(), wishes)), (4, [("eye", "valve")]))

    def test_wishes_may_be_changed_while_sets_are_told(self):
        wishes = list(WISHES)
        found = good_sets(plant(), example_box(), wishes)
        self.assertEqual(next(found), ("eye", "valve"))
        wishes.clear()
        self.assertEqual(list(found), [("ear", "eye", "valve")])

    def test_many_sets_are_found_in_time(self):
        """Six instruments and six wishes: 64 sets."""
        works, box = lights(), crane_box()
        wishes = [("kept",), ("told", "alarm", 0), ("told", "alarm", 1000), ("warned", "alarm", 0),
                  ("hidden", "blue", True), ("sure", ("red",), ("off",))]
        self.assertEqual(all_good(works, box, wishes[:1]), sets_of(box))
        self.assertEqual(all_good(works, box, wishes), [])


if __name__ == "__main__":
    unittest.main()
