import copy
import random
import unittest

from tests.chance import some_box, some_whole_parts, some_wishes, turned, turned_box
from tests.judging import flags_of, greatest, least, sets_of
from tests.nets import ALL_OF_3000, box_of_3000, triples_of_3001, works_of_3001
from tests.test_goodsets import SEEN, WISHES, cases, lights, lights_box
from tests.test_hiding import box_of_500, works_of_501
from tests.test_keeping import example_box
from tests.test_works_told import plant
from tests.things import Refusing, strange_things
from watchedworks.boxes import Box
from watchedworks.errors import BadSet, BadWishes, TooMany
from watchedworks.goodsets import is_good
from watchedworks.hands import Hand
from watchedworks.instruments import Lock
from watchedworks.verdicts import by_verdict, is_verdict, verdict
from watchedworks.wishes import against, is_against, is_paper_of, paper_of
from watchedworks.works import Works


def upward(wishes):
    return [at for at, wish in enumerate(wishes) if wish[0] != "hidden"]


def downward(wishes):
    return [at for at, wish in enumerate(wishes) if wish[0] == "hidden"]


def is_set(box, thing):
    return type(thing) is tuple and thing in sets_of(box)


def is_right_proof(works, box, wishes, places, item):
    """Of a tuple of two, the second one a tuple: whether it is a set with its papers."""
    chosen, papers = item
    return is_set(box, chosen) and len(papers) == len(places) and all(
        is_paper_of(works, box, chosen, wishes[at], paper) for at, paper in zip(places, papers)
    )


def is_right_lack(works, box, wishes, places, item):
    """Of a tuple of three, the second one an integer: whether it is a set with what is against a wish."""
    chosen, at, thing = item
    return is_set(box, chosen) and at in places and is_against(works, box, chosen, wishes[at], thing)


def is_right_verdict(works, box, wishes, thing):
    """Of what has the form of a verdict: whether it is one."""
    uppers, falls, lowers, leaks = thing
    up, down = upward(wishes), downward(wishes)
    if not all(is_right_proof(works, box, wishes, up, item) for item in uppers):
        return False
    if not all(is_right_lack(works, box, wishes, up, item) for item in falls):
        return False
    if not all(is_right_proof(works, box, wishes, down, item) for item in lowers):
        return False
    if not all(is_right_lack(works, box, wishes, down, item) for item in leaks):
        return False
    for chosen in map(set, sets_of(box)):
        if not (any(set(item[0]) <= chosen for item in uppers) or any(chosen <= set(item[0]) for item in falls)):
            return False
        if not (any(chosen <= set(item[0]) for item in lowers) or any(set(item[0]) <= chosen for item in leaks)):
            return False
    return True


def sets_in(items):
    return [item[0] for item in items]


class Example(Refusing):
    """[53], [54] by hand."""

    def test_the_plant(self):
        found = verdict(plant(), example_box(), WISHES)
        self.assertIs(type(found), tuple)
        self.assertEqual([type(rows) for rows in found], [list] * 4)
        uppers, falls, lowers, leaks = found
        self.assertEqual(sets_in(uppers), [("eye", "valve")])
        self.assertEqual([item[:2] for item in falls], [(("ear", "eye"), 0), (("ear", "valve"), 1)])
        self.assertEqual(sets_in(lowers), [("ear", "eye", "valve")])
        self.assertEqual(leaks, [])
        self.assertEqual(uppers[0][1], tuple(
            paper_of(plant(), example_box(), ["eye", "valve"], wish) for wish in WISHES[:2]
        ))
        self.assertEqual(len(lowers[0][1]), 1)
        self.assertIs(is_verdict(plant(), example_box(), WISHES, found), True)

    def test_the_index_is_that_in_the_whole_row(self):
        wishes = [SEEN[1], SEEN[0], ("hidden", "blue", True)]
        uppers, falls, lowers, leaks = verdict(lights(), lights_box(), wishes)
        self.assertEqual(sets_in(uppers), [("sa",), ("sb",), ("sc",)])
        self.assertEqual([item[:2] for item in falls], [(("la", "lb", "sd"), 1)])
        self.assertEqual(sets_in(lowers), [("la", "lb", "sa", "sb")])
        self.assertEqual([item[:2] for item in leaks], [(("sc",), 0), (("sd",), 0)])
        self.assertEqual([len(papers) for _, papers in uppers + lowers], [1, 1, 1, 2])
        again = [wishes[1], wishes[2], wishes[0]]
        self.assertEqual([item[1] for item in verdict(lights(), lights_box(), again)[3]], [1, 1])

    def test_upward_wishes_alone(self):
        wishes = WISHES[:2]
        uppers, falls, lowers, leaks = verdict(plant(), example_box(), wishes)
        self.assertEqual((lowers, leaks), ([(("ear", "eye", "valve"), ())], []))
        self.assertEqual((len(uppers), len(falls)), (1, 2))
        for more in [(uppers, falls, [], []), (uppers, falls, [(("ear",), ())], []), ([], falls, lowers, []),
                     (uppers, [], lowers, [])]:
            self.assertIs(is_verdict(plant(), example_box(), wishes, more), False)
        self.assertIs(is_verdict(plant(), example_box(), wishes, (uppers, falls, lowers * 2 + [((), ())], [])), True)

    def test_downward_wishes_alone(self):
        uppers, falls, lowers, leaks = verdict(lights(), lights_box(), SEEN[1:])
        self.assertEqual((uppers, falls), ([((), ())], []))
        self.assertEqual(sets_in(lowers), [("la", "lb", "sa", "sb")])
        self.assertEqual(sets_in(leaks), [("sc",), ("sd",)])
        self.assertIs(is_verdict(lights(), lights_box(), SEEN[1:], (uppers, falls, lowers, leaks)), True)
        self.assertIs(is_verdict(lights(), lights_box(), SEEN[1:], ([], [], lowers, leaks)), False)
        self.assertIs(is_verdict(lights(), lights_box(), SEEN[1:], ([(("sa",), ())], [], lowers, leaks)), False)

    def test_no_upper_set_and_no_lower_set(self):
        works = Works([Hand(0, [(0, "a", 0)])], faults={"a": "wear"}, secrets={"all": [{0: 0}]})
        box = Box([Lock("lock", 0, ["a"], 1)])
        wishes = [("told", "wear", 5), ("hidden", "all", True)]
        uppers, falls, lowers, leaks = verdict(works, box, wishes)
        self.assertEqual((uppers, sets_in(falls), lowers, sets_in(leaks)), ([], [("lock",)], [], [()]))
        self.assertIs(is_verdict(works, box, wishes, (uppers, falls, lowers, leaks)), True)
        for chosen in [[], ["lock"]]:
            self.assertIs(by_verdict(box, (uppers, falls, lowers, leaks), chosen), False)


class Compared(unittest.TestCase):
    """[53], [54] against all sets, judged by the tests' own workings."""

    def test_verdicts(self):
        many = [0, 0, 0, 0]
        for chance, works, box, wishes in cases(530, 70):
            flags = flags_of(works, box, wishes)
            upper = [one for one in flags if all(flags[one][at] for at in upward(wishes))]
            lower = [one for one in flags if all(flags[one][at] for at in downward(wishes))]
            found = verdict(works, box, wishes)
            self.assertEqual([sets_in(items) for items in found], [
                least(upper), greatest([one for one in flags if one not in upper]),
                greatest(lower), least([one for one in flags if one not in lower]),
            ])
            for items, places in [(found[1], upward(wishes)), (found[3], downward(wishes))]:
                for chosen, at, thing in items:
                    self.assertEqual(at, next(one for one in places if not flags[chosen][one]))
                    self.assertEqual(thing, against(works, box, chosen, wishes[at]))
            for items, places in [(found[0], upward(wishes)), (found[2], downward(wishes))]:
                for chosen, papers in items:
                    self.assertEqual(papers, tuple(paper_of(works, box, chosen, wishes[at]) for at in places))
            self.assertTrue(is_right_verdict(works, box, wishes, found))
            self.assertIs(is_verdict(works, box, wishes, found), True)
            many = [one + len(items) for one, items in zip(many, found)]
            for chosen in flags:
                turned_set = list(chosen[::-1])
                self.assertIs(by_verdict(box, found, turned_set), all(flags[chosen]))
                self.assertIs(is_good(works, box, wishes, turned_set), all(flags[chosen]))
        self.assertGreater(min(many), 15)

    def test_changed_verdicts(self):
        judged = {True: 0, False: 0}
        for chance, works, box, wishes in cases(531, 45):
            found = verdict(works, box, wishes)
            for changed in self.changed_verdicts(chance, works, box, wishes, found):
                expected = is_right_verdict(works, box, wishes, changed)
                judged[expected] += 1
                self.assertIs(is_verdict(works, box, wishes, changed), expected)
                if expected:
                    for chosen in sets_of(box):
                        self.assertIs(by_verdict(box, changed, chosen), is_good(works, box, wishes, chosen))
        self.assertGreater(judged[True], 150)
        self.assertGreater(judged[False], 500)

    def changed_verdicts(self, chance, works, box, wishes, found):
        yield tuple(chance.sample(items, len(items)) + items[:1] for items in found)
        yield self.with_more(chance, works, box, wishes, found)
        yield (found[2], found[3], found[0], found[1])
        yield (found[0], found[3], found[2], found[1])
        names = box.names()
        for place, items in enumerate(found):
            for at, item in enumerate(items):
                others = [items[:at], items[:at] + items[at + 1:]]
                sets = [item[0][1:], item[0][::-1], item[0] + item[0][:1], chance.choice(sets_of(box)),
                        tuple(sorted({*item[0], chance.choice(names)})), (*item[0], "none"), ()]
                others += [items[:at] + [(one, *item[1:])] + items[at + 1:] for one in sets]
                if place in (0, 2):
                    papers = [item[1][1:], item[1] + item[1][:1], item[1] + (None,), item[1][::-1], (None,), ([],),
                              ([], {}), (([], {}),)]
                    others += [items[:at] + [(item[0], one)] + items[at + 1:] for one in papers]
                else:
                    indexes = [item[1] + 1, item[1] - 1, -1, len(wishes), item[1] - len(wishes)]
                    others += [items[:at] + [(item[0], one, item[2])] + items[at + 1:] for one in indexes]
                    others += [items[:at] + [(*item[:2], one)] + items[at + 1:] for one in (None, (), item[2][::-1])]
                for changed in others:
                    yield (*found[:place], changed, *found[place + 1:])
            whole = tuple(names)
            if place in (0, 2):
                yield (*found[:place], [*items, (whole, ())], *found[place + 1:])
            else:
                yield (*found[:place], [*items, (whole, 0, None)], *found[place + 1:])

    def with_more(self, chance, works, box, wishes, found):
        """The verdict with all further right items, in another order."""
        rows = [list(items) for items in found]
        for chosen in sets_of(box):
            for places, good, bad in [(upward(wishes), 0, 1), (downward(wishes), 2, 3)]:
                papers = tuple(paper_of(works, box, chosen, wishes[at]) for at in places)
                if None not in papers:
                    rows[good].append((chosen, papers))
                for at in places:
                    thing = against(works, box, chosen, wishes[at])
                    if thing is not None:
                        rows[bad].append((chosen, at, thing))
        return tuple(chance.sample(items, len(items)) for items in rows)


class Judges(unittest.TestCase):
    """[5], [53] things of any kind."""

    def test_strange_things(self):
        works, box, wishes = lights(), lights_box(), SEEN
        found = verdict(works, box, wishes)
        self.assertIs(is_verdict(works, box, wishes, found), True)
        for thing in strange_things():
            wrong = [thing, (thing,) * 4, [*found], (*found, thing), found[:3] + (thing,), found[:3]]
            for place, items in enumerate(found):
                rows = [thing, [*items, thing], [*items, (thing,) * 2], [*items, (thing,) * 3], tuple(items)]
                rows += [[*items, (thing, *items[0][1:])], [*items, (*items[0], thing)], [*items, list(items[0])]]
                rows += [[*items, ((thing, thing), *items[0][1:])]]
                if place in (0, 2):
                    rows += [[*items, (items[0][0], thing)], [*items, (items[0][0], (thing,))],
                             [*items, (items[0][0], (*items[0][1], thing))], [*items, (items[0][0], [*items[0][1]])]]
                else:
                    rows += [[*items, (*items[0][:2], thing)], [*items, (*items[0][:2], (thing, thing))]]
                    if not (type(thing) is int and thing == items[0][1]):
                        rows += [[*items, (items[0][0], thing, items[0][2])]]
                for changed in rows:
                    if not (type(changed) is list and changed in (items, [])):
                        wrong.append((*found[:place], changed, *found[place + 1:]))
            for one in wrong:
                self.assertIs(is_verdict(works, box, wishes, one), False)

    def test_flags_are_no_indexes(self):
        found = verdict(lights(), lights_box(), SEEN)
        item, other = found[1][0], found[3][0]
        self.assertEqual((item[1], other[1]), (0, 1))
        for at in (False, 0.0, "0", None):
            thing = (found[0], [(item[0], at, item[2])], *found[2:])
            self.assertIs(is_verdict(lights(), lights_box(), SEEN, thing), False)
        for at in (True, 1.0, -1):
            thing = (*found[:3], [*found[3], (other[0], at, other[2])])
            self.assertIs(is_verdict(lights(), lights_box(), SEEN, thing), False)

    def test_lists_for_tuples(self):
        found = verdict(plant(), example_box(), WISHES)
        uppers, falls, lowers, leaks = found
        for wrong in [
            list(found), (tuple(uppers), falls, lowers, leaks), (uppers, falls, lowers, ()),
            ([list(uppers[0])], falls, lowers, leaks), ([(list(uppers[0][0]), uppers[0][1])], falls, lowers, leaks),
            ([(uppers[0][0], list(uppers[0][1]))], falls, lowers, leaks),
            (uppers, [list(falls[0]), falls[1]], lowers, leaks),
            (uppers, falls, lowers), (*found, []), (uppers, falls, {}, leaks), (uppers, None, lowers, leaks),
        ]:
            self.assertIs(is_verdict(plant(), example_box(), WISHES, wrong), False)

    def test_verdicts_of_others(self):
        """For other works, boxes and wishes."""
        found = verdict(plant(), example_box(), WISHES)
        self.assertIs(is_verdict(plant(), example_box() - "ear", WISHES, found), False)
        self.assertIs(is_verdict(plant(), example_box(), WISHES[:2], found), False)
        self.assertIs(is_verdict(plant(), example_box(), [*WISHES, ("warned", "wear", 0)], found), False)
        self.assertIs(is_verdict(Works(plant().hands, faults={"slip": "wear"}, secrets={"hot": [{0: 1}]}),
                                 example_box(), WISHES, found), False)
        self.assertIs(is_verdict(plant(), example_box(), [WISHES[1], WISHES[0], WISHES[2]], found), False)
        self.assertIs(is_verdict(plant(), example_box(), [WISHES[0], WISHES[2], WISHES[1]], found), False)


class Refused(Refusing):
    """[17], [53], [54] the errors."""

    def test_wishes(self):
        for works, box in [(plant(), example_box()), (works_of_3001(), box_of_3000())]:
            for call in [
                lambda wishes: verdict(works, box, wishes), lambda wishes: is_verdict(works, box, wishes, None),
            ]:
                for thing in [*strange_things(), [], (), [("kept",)] * 7]:
                    at = 0 if isinstance(thing, (list, tuple)) and 1 <= len(thing) <= 6 else -1
                    self.refuses(BadWishes, at, call, thing)
                    self.refuses(BadWishes, 0, call, ("kept", thing))
                    self.refuses(BadWishes, 0, call, [thing])
                    self.refuses(BadWishes, 1, call, (("kept",), thing, thing))

    def test_too_many(self):
        self.refuses(TooMany, 3000, verdict, works_of_3001(), box_of_3000(), [("kept",)])
        secrets = {"hot": [{0: 50}]}
        self.refuses(TooMany, 500, verdict, works_of_501(secrets), box_of_500(), [("kept",), ("hidden", "hot", True)])

    def test_the_judge_takes_more(self):
        """Each set keeps a works without bars; the whole set has too many triples for a search."""
        works, box = works_of_3001(), box_of_3000()
        lowers = [(tuple(box.names()), ())]
        uppers = [((), (paper_of(works, box, [], ("kept",)),))]
        self.assertIs(is_verdict(works, box, [("kept",)], (uppers, [], lowers, [])), True)
        more = [(tuple(ALL_OF_3000), (triples_of_3001(),))]
        self.assertIs(is_verdict(works, box, [("kept",)], (uppers + more, [], lowers, [])), True)
        self.assertIs(is_verdict(works, box, [("kept",)], (more, [], lowers, [])), False)
        less = [(tuple(ALL_OF_3000), (triples_of_3001()[1:],))]
        self.assertIs(is_verdict(works, box, [("kept",)], (uppers + less, [], lowers, [])), False)

    def test_sets_of_by_verdict(self):
        found = verdict(plant(), example_box(), WISHES)
        for thing in strange_things():
            if not isinstance(thing, (list, tuple)):
                self.refuses(BadSet, thing, by_verdict, example_box(), found, thing)
            self.refuses(BadSet, thing, by_verdict, example_box(), found, [thing])
            self.refuses(BadSet, thing, by_verdict, example_box(), found, ("eye", thing, "eye"))
        self.refuses(BadSet, "eye", by_verdict, example_box(), found, ["eye", "valve", "eye"])


class Same(unittest.TestCase):
    """[3], [61] equal arguments give equal values, and nothing that is passed changes."""

    def test_equal_arguments(self):
        chance = random.Random(532)
        for _ in range(25):
            parts = some_whole_parts(chance)
            works = Works(**parts)
            box = some_box(chance, works, 5)
            wishes = some_wishes(chance, works, box)
            other = (turned(chance, parts), turned_box(chance, box), tuple(wishes))
            found = verdict(works, box, wishes)
            self.assertEqual(found, verdict(*other))
            self.assertIs(is_verdict(*other, found), True)

    def test_nothing_passed_is_changed(self):
        wishes = list(WISHES)
        found = verdict(plant(), example_box(), wishes)
        before = copy.deepcopy(found)
        self.assertIs(is_verdict(plant(), example_box(), wishes, found), True)
        self.assertIs(by_verdict(example_box(), found, ["valve", "eye"]), True)
        self.assertEqual((found, wishes), (before, WISHES))
        for items in found:
            items.clear()
        self.assertEqual(verdict(plant(), example_box(), wishes), before)


if __name__ == "__main__":
    unittest.main()
