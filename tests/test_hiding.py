import copy
import random
import unittest

from tests import workings
from tests.chance import some_box, some_set, some_whole_parts, turned, turned_box, turned_set
from tests.test_keeping import example_box, is_kept
from tests.test_works_told import plant
from tests.things import Refusing, is_plain_integer, raised, strange_things
from watchedworks.boxes import Box
from watchedworks.errors import BadFlag, BadPost, BadSecret, BadSet, BadSights, TooMany
from watchedworks.hands import Hand
from watchedworks.hiding import betrayal, estimate_behind, estimates, hidden, hide_paper, is_betrayal, is_hide_paper
from watchedworks.instruments import Sensor
from watchedworks.works import Works

READERS = (0, 1, "both")
HUM, SMOKE = ("hum",), ("smoke",)


def cases(seed, number):
    chance = random.Random(seed)
    for _ in range(number):
        works = Works(**some_whole_parts(chance))
        box = some_box(chance, works, 6)
        yield chance, works, box, chance.choice([some_set(chance, box), box.names()])


def readers_asked(joint):
    return ["both"] if joint else [0, 1]


def all_secret(works, secret, standings):
    return all(works.is_secret(secret, standing) for standing in standings)


def is_hidden_by_hand(works, box, chosen, secret, joint):
    return not any(
        all_secret(works, secret, standings)
        for reader in readers_asked(joint) for standings in workings.all_estimates(works, box, chosen, reader)
    )


def is_right_betrayal(works, box, chosen, secret, thing, joint):
    """Of what has the form of a betrayal: whether it is one."""
    reader, run = thing
    if reader not in readers_asked(joint) or not is_kept(works, run):
        return False
    sights = workings.sights_of(box, chosen, reader, run)
    return all_secret(works, secret, workings.estimate(works, box, chosen, reader, sights))


def is_right_paper(works, box, chosen, secret, paper, reader):
    """Of a list of tuples of kept standings: whether it is a hide paper for the reader."""
    for one in paper:
        if not one or list(one) != sorted(set(one)) or all_secret(works, secret, one):
            return False
        for word in works.words:
            shown = workings.sight(box, chosen, reader, word)
            if shown is not None:
                behind = workings.behind_sight(works, box, chosen, reader, one, shown)
                if behind and tuple(sorted(behind)) not in paper:
                    return False
    return tuple(sorted(workings.estimate(works, box, chosen, reader, ()))) in paper


def lamps():
    """A works whose second state is hidden from each post, but not from both together."""
    hand = Hand(0, [(0, "red", 1), (0, "blue", 2), (0, "white", 3), (1, "off", 0), (2, "off", 0), (3, "off", 0)])
    return Works([hand], secrets={"red": [{0: 1}], "lit": [{0: 1}, {0: 2}, {0: 3}], "none": [{0: 50}]})


def lamps_box():
    """One post takes red for blue, the other one red for white."""
    return Box([
        Sensor("left", 0, {"red": "s", "blue": "s", "white": "t", "off": "o"}, 1),
        Sensor("right", 1, {"red": "s", "white": "s", "blue": "t", "off": "o"}, 1),
        Sensor("warm", 0, {"red": "s", "blue": "s"}, 1), Sensor("dark", 0, {"off": "dark"}, 1),
    ])


def works_of_500(steps=((), (), ()), secrets=None):
    """The joint estimates are 10 of the first hand with 10 of the second and 5 of the third, each with each."""
    wide, narrow = [(0, 3), (1, 0), (2, 0), (2, 1), (3, 2)], [(0, "r", 0), (0, "r", 2), (2, "r", 1), (2, "s", 2)]
    hands = [[(one, "p", other) for one, other in wide], [(one, "q", other) for one, other in wide], narrow]
    return Works([Hand(0, [*hand, *more]) for hand, more in zip(hands, steps)], secrets=secrets)


def works_of_501(secrets=None):
    """One estimate more: an end that all hands come to together."""
    return works_of_500([[(0, "e", 7)]] * 3, secrets)


def box_of_500():
    whole = {"p": "p", "q": "q", "r": "r", "s": "s", "e": "e"}
    return Box([
        Sensor("all", 0, whole, 1), Sensor("every", 1, whole, 1), Sensor("first", 0, {"p": "p"}, 1),
        Sensor("most", 0, {"p": "p", "q": "q", "e": "e"}, 1), Sensor("last", 1, {"r": "r", "s": "s"}, 1),
    ])


class Example(Refusing):
    """[37] to [40] what the example says of the secret, and more by hand."""

    def test_the_secret_of_the_plant_is_hidden_by_all_sets(self):
        for chosen in [[], ["ear"], ["eye"], ["ear", "eye"], ["valve"], ("valve", "ear", "eye"), ["eye", "valve"]]:
            for joint in (False, True):
                self.assertIs(hidden(plant(), example_box(), chosen, "hot", joint=joint), True)
                self.assertIsNone(betrayal(plant(), example_box(), chosen, "hot", joint=joint))
            self.assertIs(hidden(plant(), example_box(), chosen, "hot"), True)

    def test_estimates_of_the_plant(self):
        every = ((0,), (1,), (2,))
        self.assertEqual(estimates(plant(), example_box(), ["eye"], 0), [((0,), (1,)), every])
        self.assertEqual(estimates(plant(), example_box(), ("ear", "eye"), 0), [((0,),), ((0,), (1,)), ((0,), (2,))])
        for reader in READERS:
            self.assertEqual(estimates(plant(), example_box(), ["valve"], reader), [every])
        self.assertEqual(estimates(plant(), example_box(), ["ear", "eye"], 1), [every])

    def test_estimates_behind_sights(self):
        found = estimate_behind(plant(), example_box(), ["ear", "eye"], 0, (("hum", None), ("hum", "smoke")))
        self.assertEqual(found, ((0,), (2,)))
        self.assertIs(type(found), tuple)
        joint = ((("hum", None), None), (("hum", "smoke"), None))
        self.assertEqual(estimate_behind(plant(), example_box(), ["ear", "eye"], "both", joint), ((0,), (2,)))
        self.assertEqual(estimate_behind(plant(), example_box(), ["eye"], 0, ()), ((0,), (1,)))
        self.assertEqual(estimate_behind(plant(), example_box(), ["eye"], 0, (SMOKE, SMOKE)), ((0,), (1,), (2,)))
        self.assertEqual(estimate_behind(plant(), example_box(), ["eye"], 0, (SMOKE, HUM)), ())
        self.assertEqual(estimate_behind(plant(), example_box(), ["eye"], 1, (SMOKE,)), ())

    def test_who_sees_that_nothing_follows_knows(self):
        box = Box([Sensor("all", 1, {word: word for word in plant().words}, 1)])
        self.assertIs(hidden(plant(), box, ["all"], "hot"), False)
        reader, run = betrayal(plant(), box, ["all"], "hot")
        self.assertEqual((reader, workings.end(plant(), run)), (1, (2,)))
        self.assertIsNone(hide_paper(plant(), box, ["all"], "hot"))
        self.assertIs(hidden(plant(), box, [], "hot"), True)

    def test_apart_and_jointly(self):
        """[37] hidden from each post, and betrayed by what both see."""
        both, works, box = ["left", "right"], lamps(), lamps_box()
        self.assertIs(hidden(works, box, both, "red"), True)
        self.assertIs(hidden(works, box, both, "red", joint=True), False)
        self.assertIsNone(betrayal(works, box, both, "red"))
        reader, run = betrayal(works, box, both, "red", joint=True)
        self.assertEqual((reader, run[-1][0]), ("both", "red"))
        self.assertEqual(hide_paper(works, box, both, "red"), [
            [((0,),), ((1,), (2,)), ((3,),)], [((0,),), ((1,), (3,)), ((2,),)],
        ])
        self.assertIsNone(hide_paper(works, box, both, "red", joint=True))
        for chosen in [["left"], ["right"], [], ["warm", "dark"]]:
            self.assertIs(hidden(works, box, chosen, "red", joint=True), True)

    def test_papers_by_hand(self):
        every = ((0,), (1,), (2,), (3,))
        warm = [((0,), (1,), (2,), (3,)), ((0,), (3,))]
        self.assertEqual(hide_paper(lamps(), lamps_box(), ["warm"], "red", joint=True), [sorted(warm)])
        self.assertEqual(hide_paper(lamps(), lamps_box(), ["warm"], "lit"), [sorted(warm), [every]])
        self.assertEqual(hide_paper(lamps(), lamps_box(), ["dark"], "lit"), [[every], [every]])
        self.assertIsNone(hide_paper(lamps(), lamps_box(), ["dark", "warm"], "lit"))
        self.assertEqual(hide_paper(lamps(), lamps_box(), [], "none", joint=True), [[every]])

    def test_a_start_that_is_secret_alone(self):
        works = Works([Hand(0, [(0, "a", 1)])], secrets={"home": [{0: 0}], "all": [{0: 0}, {0: 1}]})
        box = Box([Sensor("eye", 0, {"a": "s"}, 1)])
        self.assertEqual(betrayal(works, box, ["eye"], "home"), (0, ()))
        self.assertEqual(betrayal(works, box, ["eye"], "home", joint=True), ("both", ()))
        self.assertIs(hidden(works, box, [], "home"), True)
        self.assertIs(hidden(works, box, [], "all"), False)
        self.assertIs(is_betrayal(works, box, [], "all", (1, (("a", (1,)),))), True)

    def test_barred_standings_are_in_no_estimate(self):
        """[11] also where no instrument keeps the bars."""
        works = Works(plant().hands, bars=[{0: 2}], secrets={"hot": [{0: 0}, {0: 1}]})
        self.assertEqual(estimates(works, example_box(), [], "both"), [((0,), (1,))])
        self.assertIs(hidden(works, example_box(), [], "hot"), False)
        self.assertIs(is_betrayal(works, example_box(), [], "hot", (0, (("start", (1,)), ("slip", (2,))))), False)
        self.assertIs(is_betrayal(works, example_box(), [], "hot", (0, (("start", (1,)),))), True)


class Compared(unittest.TestCase):
    """[37] to [40] against the tests' own workings."""

    def test_estimates_with_all_kept_runs(self):
        """In small works each standing of an estimate is the end of a short run."""
        compared = 0
        for _, works, box, chosen in cases(37, 150):
            many = len(works.kept())
            if many > 5:
                continue
            for reader in READERS:
                pairs = workings.shown_up_to(works, box, chosen, reader, 3 * many - 1, 2)
                for sights in {shown for _, shown in pairs}:
                    compared += 1
                    expected = sorted(end for end, shown in pairs if shown == sights)
                    self.assertEqual(estimate_behind(works, box, chosen, reader, sights), tuple(expected))
        self.assertGreater(compared, 300)

    def test_all_estimates(self):
        greatest = 0
        for _, works, box, chosen in cases(38, 200):
            for reader in READERS:
                expected = sorted(tuple(sorted(one)) for one in workings.all_estimates(works, box, chosen, reader))
                found = estimates(works, box, chosen, reader)
                self.assertEqual(found, expected)
                self.assertTrue(all(type(one) is tuple for one in found))
                greatest = max(greatest, len(found))
        self.assertGreater(greatest, 12)

    def test_estimates_along_kept_runs(self):
        for chance, works, box, chosen in cases(39, 60):
            runs = workings.runs_up_to(works, 3, works.kept_moves)
            for run in chance.sample(runs, min(len(runs), 12)):
                for reader in READERS:
                    sights = workings.sights_of(box, chosen, reader, run)
                    found = estimate_behind(works, box, chosen, reader, sights)
                    self.assertIn(workings.end(works, run), found)
                    self.assertIn(found, estimates(works, box, chosen, reader))
                    turned_sights = sights[::-1] + sights
                    expected = workings.estimate(works, box, chosen, reader, turned_sights)
                    self.assertEqual(
                        estimate_behind(works, box, chosen, reader, turned_sights), tuple(sorted(expected)),
                    )

    def test_without_sensors_there_is_one_estimate(self):
        for _, works, box, chosen in cases(40, 60):
            for reader in READERS:
                posts = [0, 1] if reader == "both" else [reader]
                if not any(workings.has(box, chosen, post, Sensor) for post in posts):
                    self.assertEqual(estimates(works, box, chosen, reader), [tuple(works.kept())])

    def test_hidden_and_betrayed(self):
        told = {}
        for _, works, box, chosen in cases(41, 250):
            for secret in works.secrets:
                for joint in (False, True):
                    expected = is_hidden_by_hand(works, box, chosen, secret, joint)
                    told[(joint, expected)] = told.get((joint, expected), 0) + 1
                    self.assertIs(hidden(works, box, chosen, secret, joint=joint), expected)
                    found = betrayal(works, box, chosen, secret, joint=joint)
                    paper = hide_paper(works, box, chosen, secret, joint=joint)
                    self.assertEqual((found is None, paper is None), (expected, not expected))
                    if expected:
                        self.assertEqual(paper, [
                            sorted(tuple(sorted(one)) for one in workings.all_estimates(works, box, chosen, reader))
                            for reader in readers_asked(joint)
                        ])
                        self.assertIs(is_hide_paper(works, box, chosen, secret, paper, joint=joint), True)
                    else:
                        self.assertTrue(is_right_betrayal(works, box, chosen, secret, found, joint))
                        self.assertIs(is_betrayal(works, box, chosen, secret, found, joint=joint), True)
        self.assertEqual(len(told), 4)
        self.assertGreater(min(told.values()), 60)

    def test_what_is_hidden_jointly_is_hidden_from_each(self):
        differ = 0
        for _, works, box, _ in cases(42, 500):
            for secret in works.secrets:
                apart, jointly = [hidden(works, box, box.names(), secret, joint=joint) for joint in (False, True)]
                self.assertTrue(apart or not jointly)
                differ += apart != jointly
        self.assertGreater(differ, 3)

    def test_more_instruments_hide_less(self):
        """[20]"""
        less = 0
        for chance, works, box, chosen in cases(43, 150):
            few = [name for name in chosen if chance.random() < 0.6]
            for secret in works.secrets:
                for joint in (False, True):
                    if hidden(works, box, chosen, secret, joint=joint):
                        self.assertIs(hidden(works, box, few, secret, joint=joint), True)
                    elif hidden(works, box, few, secret, joint=joint):
                        less += 1
        self.assertGreater(less, 20)


class Changed(unittest.TestCase):
    """[39], [40] the judges with changed betrayals and papers."""

    def test_changed_betrayals(self):
        judged = {True: 0, False: 0}
        for chance, works, box, chosen in cases(44, 80):
            runs = workings.runs_up_to(works, 3, works.moves)
            for secret in works.secrets:
                for joint in (False, True):
                    found = betrayal(works, box, chosen, secret, joint=joint) or (0, ())
                    for changed in self.changed_betrayals(chance, works, found, runs):
                        expected = is_right_betrayal(works, box, chosen, secret, changed, joint)
                        judged[expected] += 1
                        self.assertIs(is_betrayal(works, box, chosen, secret, changed, joint=joint), expected)
        self.assertGreater(judged[True], 300)
        self.assertGreater(judged[False], 2000)

    def changed_betrayals(self, chance, works, found, runs):
        reader, run = found
        for other in READERS:
            yield (other, run)
            yield (other, chance.choice(runs))
        for changed in [run[:-1], run[1:], run + run, *chance.sample(runs, min(len(runs), 6))]:
            yield (reader, changed)
        for move in works.moves(workings.end(works, run)):
            yield (reader, run + (move,))

    def test_changed_papers(self):
        judged = {True: 0, False: 0}
        for chance, works, box, chosen in cases(45, 55):
            for secret in works.secrets[:1]:
                for joint in (False, True):
                    papers = hide_paper(works, box, chosen, secret, joint=joint)
                    if papers is None:
                        papers = [estimates(works, box, chosen, reader) for reader in readers_asked(joint)]
                    for at, reader in enumerate(readers_asked(joint)):
                        for changed in self.changed_papers(chance, works, papers[at]):
                            expected = all(
                                is_right_paper(works, box, chosen, secret, paper, other) for other, paper in
                                zip(readers_asked(joint), [*papers[:at], changed, *papers[at + 1:]])
                            )
                            judged[expected] += 1
                            thing = [*papers[:at], changed, *papers[at + 1:]]
                            found = is_hide_paper(works, box, chosen, secret, thing, joint=joint)
                            self.assertIs(found, expected)
        self.assertGreater(judged[True], 120)
        self.assertGreater(judged[False], 400)

    def changed_papers(self, chance, works, paper):
        yield paper
        yield chance.sample(paper, len(paper)) + paper[:1]
        yield []
        yield paper + [()]
        for at in chance.sample(range(len(paper)), min(len(paper), 3)):
            yield paper[:at] + paper[at + 1:]
            yield paper[:at] + [paper[at][::-1]] + paper[at + 1:]
            yield paper + [paper[at] + paper[at][-1:]]
            yield paper + [paper[at][1:]]
        for _ in range(3):
            some = chance.sample(works.kept(), chance.randrange(1, len(works.kept()) + 1))
            yield paper + [tuple(sorted(some))]
        yield paper + [tuple(works.kept())]
        yield paper + [(standing,) for standing in works.kept()]

    def test_the_number_and_the_order_of_papers(self):
        works, box, chosen = lamps(), lamps_box(), ["left", "right"]
        first, second = hide_paper(works, box, chosen, "red")
        for thing, expected in [
            ([first, second], True), ([second, first], False), ([first], False), ([first, second, second], False),
            ([], False), ([first, first], False), ([second, second], False), ((first, second), False),
            ([tuple(first), second], False), ([first[::-1], second * 2], True), (first, False), ([[], []], False),
            ({0: first, 1: second}, False),
        ]:
            self.assertIs(is_hide_paper(works, box, chosen, "red", thing), expected)
            self.assertIs(is_hide_paper(works, box, chosen, "red", thing, joint=True), False)
        joint, = hide_paper(works, box, ["left"], "red", joint=True)
        self.assertIs(is_hide_paper(works, box, ["left"], "red", [joint], joint=True), True)
        self.assertIs(is_hide_paper(works, box, ["left"], "red", [joint, joint], joint=True), False)
        self.assertIs(is_hide_paper(works, box, ["left"], "red", [joint]), False)

    def test_barred_standings_and_others(self):
        works = Works(plant().hands, bars=[{0: 3}], secrets={"hot": [{0: 2}]})
        paper = estimates(works, example_box(), ["eye"], 0)
        rest = estimates(works, example_box(), ["eye"], 1)
        self.assertIs(is_hide_paper(works, example_box(), ["eye"], "hot", [paper, rest]), True)
        for one in [
            ((3,),), ((0,), (3,)), ((9,),), ((0, 0),), ((True,),), ((0.0,),), ((0,), (True,)), [(0,)], ((0,), None),
            ((0,), [1]), (0,), "0", (0, 1), ((0,), (0,)), ((1,), (0,)), (), ((2,),), None, ((0,), ("1",)),
        ]:
            self.assertIs(is_hide_paper(works, example_box(), ["eye"], "hot", [paper + [one], rest]), False)
            self.assertIs(is_hide_paper(works, example_box(), ["eye"], "hot", [paper, rest + [one]]), False)


class Judges(unittest.TestCase):
    """[5], [39], [40] the judges and things of any kind."""

    def test_strange_things(self):
        works, box = plant(), Box([Sensor("all", 1, {word: word for word in plant().words}, 1)])
        reader, run = betrayal(works, box, ["all"], "hot")
        papers = hide_paper(works, box, [], "hot")
        for thing in strange_things():
            is_one = is_plain_integer(thing) and thing == 1
            self.assertIs(is_betrayal(works, box, ["all"], "hot", (thing, run)), is_one)
            for wrong in [
                thing, (reader, thing), (reader, (*run, thing)), (reader, (thing, *run)), (reader, run, thing),
                [reader, thing], (reader, ((thing, (1,)), *run[1:])),
                (thing,), (thing,) * 2, (thing,) * 3, {reader: thing} if is_one else [thing],
            ]:
                for joint in (False, True):
                    self.assertIs(is_betrayal(works, box, ["all"], "hot", wrong, joint=joint), False)
            for wrong in [
                thing, [thing, papers[1]], [papers[0], thing], [*papers, thing], [thing], [thing] * 2,
                [papers[0] + [thing], papers[1]], [papers[0], papers[1] + [(thing, thing)]],
                [papers[0], papers[1] + [((0,), thing, (2,))]], (papers, thing),
                [papers[0], papers[1] + [((thing, thing),)]], [papers[0], papers[1] + [[thing]]],
            ]:
                self.assertIs(is_hide_paper(works, box, [], "hot", wrong), False)
            is_state = is_plain_integer(thing) and thing in (0, 1)
            self.assertIs(is_hide_paper(works, box, [], "hot", [papers[0], papers[1] + [((thing,),)]]), is_state)

    def test_betrayals_of_other_kinds(self):
        works, box = plant(), Box([Sensor("all", 1, {word: word for word in plant().words}, 1)])
        reader, run = betrayal(works, box, ["all"], "hot")
        for wrong in [
            (True, run), (1.0, run), ("1", run), ("both", run), (0, run), (None, run), [reader, run],
            (reader, list(run)), (reader, run[:-1]), (reader,), (reader, run, None), (run, reader), run, (),
            (reader, (("start", (True,)), *run[1:])),
        ]:
            self.assertIs(is_betrayal(works, box, ["all"], "hot", wrong), False)
        self.assertIs(is_betrayal(works, box, ["all"], "hot", ("both", run), joint=True), True)
        self.assertIs(is_betrayal(works, box, ["all"], "hot", (1, run), joint=True), False)


class Refused(Refusing):
    """[17], [38], [41] the errors in their order."""

    def calls(self, works, box):
        """Functions of the set, the secret and the flag; the last two are judges."""
        return [
            lambda chosen, secret, joint: hidden(works, box, chosen, secret, joint=joint),
            lambda chosen, secret, joint: betrayal(works, box, chosen, secret, joint=joint),
            lambda chosen, secret, joint: hide_paper(works, box, chosen, secret, joint=joint),
            lambda chosen, secret, joint: is_betrayal(works, box, chosen, secret, None, joint=joint),
            lambda chosen, secret, joint: is_hide_paper(works, box, chosen, secret, None, joint=joint),
        ]

    def asked(self):
        return [(plant(), example_box()), (works_of_501({"hot": [{0: 7}]}), box_of_500())]

    def test_sets_come_first(self):
        for works, box in self.asked():
            for call in [*self.calls(works, box), self.asking_estimates(works, box), self.asking_behind(works, box)]:
                for thing in strange_things():
                    if not isinstance(thing, (list, tuple)):
                        self.refuses(BadSet, thing, call, thing, None, None)
                    self.refuses(BadSet, thing, call, [thing], "none", 0)
                    self.refuses(BadSet, thing, call, (box.names()[0], thing), "hot", True)
                self.refuses(BadSet, box.names()[0], call, box.names()[:1] * 2, None, None)

    def asking_estimates(self, works, box):
        return lambda chosen, reader, _: estimates(works, box, chosen, reader)

    def asking_behind(self, works, box):
        return lambda chosen, reader, sights: estimate_behind(works, box, chosen, reader, sights)

    def test_secrets_come_next(self):
        for works, box in self.asked():
            for call in self.calls(works, box):
                for thing in [*strange_things(), "wear", "Hot", ["hot"], ("hot",), b"hot"]:
                    self.refuses(BadSecret, thing, call, box.names(), thing, None)
                    self.refuses(BadSecret, thing, call, box.names(), thing, True)
        for call in self.calls(Works(plant().hands), example_box()):
            self.refuses(BadSecret, "hot", call, ["ear"], "hot", False)

    def test_flags_come_next(self):
        for works, box in self.asked():
            for call in self.calls(works, box):
                for thing in [*strange_things(), 0, 1, 0.0, 1.0, "both", None, "", []]:
                    if thing is not True and thing is not False:
                        self.refuses(BadFlag, thing, call, box.names(), "hot", thing)

    def test_readers_and_sights(self):
        for works, box in self.asked():
            for thing in [*strange_things(), 2, -1, "Both", "both ", ["both"], b"both"]:
                if not (is_plain_integer(thing) and thing in (0, 1)):
                    self.refuses(BadPost, thing, estimates, works, box, box.names(), thing)
                    self.refuses(BadPost, thing, estimate_behind, works, box, box.names(), thing, None)
                if not isinstance(thing, tuple):
                    for reader in READERS:
                        self.refuses(BadSights, thing, estimate_behind, works, box, box.names(), reader, thing)

    def test_sights_with_items_of_any_kind(self):
        for thing in [*strange_things(), "hum", ("hum", None), (None, "smoke"), (HUM, None), None]:
            for sights in [(thing,), (HUM, thing), (thing,) * 40]:
                for reader in READERS:
                    self.assertEqual(estimate_behind(plant(), example_box(), ["eye"], reader, sights), ())

    def test_500_estimates_but_not_more(self):
        box = box_of_500()
        for reader, chosen in [(0, ["all"]), ("both", ["all"]), ("both", ["all", "every", "first"]), (1, ["every"]),
                               ("both", ["most", "last"])]:
            self.assertEqual(len(estimates(works_of_500(), box, chosen, reader)), 500)
            self.refuses(TooMany, 500, estimates, works_of_501(), box, chosen, reader)
        self.assertEqual(len(estimates(works_of_501(), box, ["all"], 1)), 1)
        self.assertEqual(estimate_behind(works_of_501(), box, ["all"], 0, (("e",),)), ((7, 7, 7),))

    def test_the_readers_that_are_asked_count(self):
        exact, over = works_of_500(secrets={"hot": [{0: 50}]}), works_of_501({"hot": [{0: 50}]})
        box = box_of_500()
        for works, chosen, joint, many in [
            (exact, ["all"], False, False), (exact, ["all"], True, False), (over, ["all"], False, True),
            (over, ["all"], True, True), (over, ["every"], False, True), (over, ["most", "last"], False, False),
            (over, ["most", "last"], True, True), (over, ["last"], True, False), (over, [], False, False),
        ]:
            for call in self.calls(works, box)[:3]:
                if many:
                    self.refuses(TooMany, 500, call, chosen, "hot", joint)
                else:
                    self.assertIsNone(raised(call, chosen, "hot", joint))
        papers = hide_paper(exact, box, ["all"], "hot")
        self.assertEqual([len(paper) for paper in papers], [500, 1])
        self.assertIs(is_hide_paper(exact, box, ["all"], "hot", papers), True)

    def test_also_where_a_betrayal_is_met_at_once(self):
        """Post 0 knows the first hand's state at last, or all is secret; another reader has too many estimates."""
        for secrets in [{"hot": [{0: 0}, {0: 1}, {0: 2}, {0: 3}]}, {"hot": [{0: 2}]}]:
            exact, over, box = works_of_500(secrets=secrets), works_of_501(secrets), box_of_500()
            for chosen in [["first", "every"], ["all", "first"], ["all", "every"]]:
                self.assertIs(hidden(exact, box, chosen, "hot"), False)
                for call in self.calls(over, box)[:3]:
                    for joint in (False, True):
                        self.refuses(TooMany, 500, call, chosen, "hot", joint)

    def test_the_judges_take_more(self):
        works, box = works_of_501({"hot": [{0: 50}], "end": [{0: 7}]}), box_of_500()
        found = [
            sorted(tuple(sorted(one)) for one in workings.all_estimates(works, box, ["all"], reader))
            for reader in (0, 1)
        ]
        self.assertEqual([len(paper) for paper in found], [501, 1])
        self.assertIs(is_hide_paper(works, box, ["all"], "hot", found), True)
        self.assertIs(is_hide_paper(works, box, ["all"], "hot", [found[0][1:], found[1]]), False)
        self.assertIs(is_hide_paper(works, box, ["all"], "end", found), False)
        self.assertIs(is_hide_paper(works, box, ["all"], "hot", found[:1], joint=True), True)
        self.assertIs(is_betrayal(works, box, ["all"], "end", (0, (("e", (7, 7, 7)),))), True)
        self.assertIs(is_betrayal(works, box, ["all"], "end", (1, (("e", (7, 7, 7)),))), False)
        self.assertIs(is_betrayal(works, box, ["all"], "end", ("both", (("e", (7, 7, 7)),)), joint=True), True)

    def test_secrets_and_flags_are_asked_by_name(self):
        with self.assertRaises(TypeError):
            hidden(plant(), example_box(), [], "hot", True)


class Same(unittest.TestCase):
    """[3] what is passed stays, what is returned is new, equal arguments give equal values."""

    def test_equal_arguments(self):
        chance = random.Random(46)
        for _ in range(50):
            parts = some_whole_parts(chance)
            works = Works(**parts)
            box = some_box(chance, works, 6)
            chosen = chance.choice([some_set(chance, box), box.names()])
            other = (turned(chance, parts), turned_box(chance, box), turned_set(chance, chosen))
            for reader in READERS:
                self.assertEqual(estimates(works, box, chosen, reader), estimates(*other, reader))
            for secret in works.secrets:
                for call in (hidden, betrayal, hide_paper):
                    for joint in (False, True):
                        self.assertEqual(
                            call(works, box, chosen, secret, joint=joint), call(*other, secret, joint=joint),
                        )

    def test_nothing_passed_is_changed(self):
        works, box, chosen = lamps(), lamps_box(), ["right", "left"]
        papers = hide_paper(works, box, chosen, "red")
        before = copy.deepcopy((chosen, papers))
        self.assertIs(is_hide_paper(works, box, chosen, "red", papers), True)
        self.assertEqual((chosen, papers), before)
        papers[0].clear()
        papers.clear()
        estimates(works, box, chosen, 0).clear()
        self.assertEqual(hide_paper(works, box, chosen, "red"), before[1])
        self.assertEqual(estimates(works, box, chosen, 0), before[1][0])


if __name__ == "__main__":
    unittest.main()
