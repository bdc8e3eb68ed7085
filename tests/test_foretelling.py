import copy
import random
import unittest

from tests import workings
from tests.chance import some_box, some_parts, some_set, some_works, some_worn_parts, turned, turned_box, turned_set
from tests.fault_errors import OrderOfErrors
from tests.nets import ALL_OF_3000, box_of_3000, ring, triples_of_3000, triples_of_3001, works_of_3000, works_of_3001
from tests.test_keeping import example_box, is_kept
from tests.test_telling import are_right_others, counting
from tests.test_works_told import plant
from tests.things import Refusing, is_plain_integer, strange_things
from tests.workings import end, sights_of, words_of_fault
from watchedworks.boxes import Box
from watchedworks.errors import BadFault, TooMany
from watchedworks.foretelling import doomed, is_unwarned, is_warn_paper, lead, unwarned, warn_paper, warned
from watchedworks.hands import Hand
from watchedworks.instruments import Lock, Sensor
from watchedworks.telling import late
from watchedworks.works import Works


def doomed_by_hand(works, fault):
    """The kept standings from which one can neither go round for ever nor end without the fault."""
    words = words_of_fault(works, fault)
    safe = set(works.kept())
    while True:
        lost = {
            standing for standing in safe
            if works.kept_moves(standing)
            and not any(word not in words and behind in safe for word, behind in works.kept_moves(standing))
        }
        if not lost:
            return sorted(set(works.kept()) - safe)
        safe -= lost


def clean_moves(works, fault):
    words = words_of_fault(works, fault)
    return lambda standing: [move for move in works.kept_moves(standing) if move[0] not in words]


def is_open_at(works, fault, standing):
    return any(word in words_of_fault(works, fault) for word, _ in works.kept_moves(standing))


def foretells(works, box, chosen, fault, post, run):
    """Whether a post foretells the fault behind a run, by where clean runs end that are alike with it."""
    words = words_of_fault(works, fault)
    ends = workings.estimate(works, box, chosen, post, sights_of(box, chosen, post, run), words)
    return ends <= set(doomed_by_hand(works, fault))


def is_warned_of_short_runs(works, box, chosen, fault, ahead, most):
    for run in workings.runs_up_to(works, most, clean_moves(works, fault)):
        if is_open_at(works, fault, end(works, run)):
            if len(run) < ahead:
                return False
            begun = run[:len(run) - ahead]
            if not any(foretells(works, box, chosen, fault, post, begun) for post in (0, 1)):
                return False
    return True


def shortest_open_run(works, fault):
    moves = clean_moves(works, fault)
    layer, known, number = {workings.start_of(works)}, set(), 0
    while layer:
        if any(is_open_at(works, fault, standing) for standing in layer):
            return number
        known |= layer
        layer = {behind for standing in layer for _, behind in moves(standing)} - known
        number += 1
    return None


def unforetold_standings(works, box, chosen, fault):
    """Where clean runs end behind which no post foretells the fault, by where each post thinks the works can be."""
    words, moves, lost = words_of_fault(works, fault), clean_moves(works, fault), set(doomed_by_hand(works, fault))
    start = workings.start_of(works)
    first = (start, *(workings.unseen(works, box, chosen, post, {start}, words) for post in (0, 1)))
    met, waiting = {first}, [first]
    while waiting:
        standing, *clean = waiting.pop()
        for word, behind in moves(standing):
            place = (behind, *(
                workings.behind_word(works, box, chosen, post, clean[post], word, words) for post in (0, 1)
            ))
            if place not in met:
                met.add(place)
                waiting.append(place)
    return {standing for standing, *clean in met if not any(ends <= lost for ends in clean)}


def is_warned(works, box, chosen, fault, ahead):
    shortest = shortest_open_run(works, fault)
    if shortest is None or shortest < ahead:
        return shortest is None
    layer, moves = unforetold_standings(works, box, chosen, fault), clean_moves(works, fault)
    for _ in range(ahead):
        layer = {behind for standing in layer for _, behind in moves(standing)}
    return not any(is_open_at(works, fault, standing) for standing in layer)


def is_right_unwarned(works, box, chosen, fault, ahead, thing):
    run, at, others = thing
    words, lost = words_of_fault(works, fault), doomed_by_hand(works, fault)
    if not is_kept(works, run) or any(word in words for word, _ in run):
        return False
    if not is_open_at(works, fault, end(works, run)):
        return False
    if len(run) < ahead:
        return at == -1 and others == (None, None)
    if at != len(run) - ahead or workings.start_of(works) in lost:
        return False
    if not are_right_others(works, box, chosen, fault, run[:at], others):
        return False
    return not any(end(works, other) in lost for other in others if other is not None)


def is_right_paper(works, box, chosen, fault, ahead, paper):
    """Of a list of triples of kept standings, with None where it has to be: whether it is a warn paper."""
    words, lost, counts = words_of_fault(works, fault), doomed_by_hand(works, fault), counting(box, chosen)
    start, shortest = workings.start_of(works), shortest_open_run(works, fault)
    if shortest is not None and shortest < ahead:
        return False
    if start in lost or shortest is None:
        return paper == []
    if (start, *(start if one else None for one in counts)) not in paper:
        return False
    for triple in paper:
        for behind, faulty, _ in workings.steps_behind(works, box, chosen, counts, words, (triple, False)):
            if not faulty and behind not in paper:
                return False
        if not any(standing in lost for standing in triple[1:]):
            layer = {triple[0]}
            for _ in range(ahead):
                layer = {behind for standing in layer for _, behind in clean_moves(works, fault)(standing)}
            if any(is_open_at(works, fault, standing) for standing in layer):
                return False
    return True


def some_brittle_parts(chance):
    """What a works is made with whose first hand can come, by words that may sound alike, to where a fault is sure."""
    more = chance.randrange(1, 4)
    steps = [(0, "a", 1), (1, "a", 0), (chance.randrange(2), chance.choice("abc"), 10)]
    steps += [(10 + at, chance.choice("abcd"), 11 + at) for at in range(more)]
    steps.append((10 + more, "f", chance.choice([0, 20, 10])))
    steps += chance.sample([(10, "g", 11), (10, "e", 0), (10, "h", 10)], chance.choice([0, 0, 0, 1, 2]))
    hands = [Hand(chance.choice([0, 0, 0, 10]), steps)]
    if chance.random() < 0.4:
        hands.append(Hand(0, chance.choice([[(0, "x", 1), (1, "x", 0)], [(0, "x", 1), (1, "a", 0)], [(0, "a", 0)]])))
    return {"hands": hands, "bars": [], "faults": {word: "f" for word in "fg" if word in hands[0].words}}


def cases(seed, number):
    chance = random.Random(seed)
    for _ in range(number):
        kind = chance.random()
        if kind < 0.6:
            works = Works(**some_brittle_parts(chance))
        else:
            works = Works(**some_worn_parts(chance)) if kind < 0.7 else some_works(chance, bars=1)
        box = some_box(chance, works, 6)
        chosen = chance.choice([some_set(chance, box), box.names()])
        yield chance, works, box, chosen, chance.choice(works.faults)


def kiln():
    """Behind "crack" the fault is sure to come, two moves later; "knock" sounds like it."""
    hand = Hand(0, [(0, "heat", 1), (1, "cool", 0), (1, "knock", 1), (1, "crack", 2), (2, "glow", 3), (3, "burst", 4),
                    (4, "mend", 0)])
    return Works([hand], faults={"burst": "wear"})


KILN_BOX = Box([
    Sensor("eye", 0, {"crack": "line"}, 1), Sensor("ear", 0, {"crack": "tick", "knock": "tick"}, 1),
    Sensor("far", 1, {"glow": "red"}, 1), Lock("lock", 1, ["heat"], 1),
])


class Example(Refusing):
    """What the example says of warned, and more by hand."""

    def test_the_example(self):
        for chosen in [["ear", "eye"], ["ear"], [], ["valve"], ["eye", "ear", "valve"]]:
            self.assertIs(warned(plant(), example_box(), chosen, "wear", 0), False)
            self.assertEqual(lead(plant(), example_box(), chosen, "wear"), -1)
            self.assertIsNone(warn_paper(plant(), example_box(), chosen, "wear", 0))
        self.assertEqual(doomed(plant(), "wear"), [])
        self.assertEqual(unwarned(plant(), example_box(), ["ear"], "wear", 0), (
            (("start", (1,)),), 1, ((("start", (1,)),), None),
        ))
        self.assertEqual(unwarned(plant(), example_box(), ["ear"], "wear", 2), ((("start", (1,)),), -1, (None, None)))

    def test_the_kiln(self):
        self.assertEqual(doomed(kiln(), "wear"), [(2,), (3,)])
        for chosen, expected in [
            (["eye"], 1), (["far"], 0), (["ear"], -1), ([], -1), (["lock"], -1), (["far", "ear"], 0),
            (["eye", "far", "ear", "lock"], 1),
        ]:
            self.assertEqual(lead(kiln(), KILN_BOX, chosen, "wear"), expected, chosen)
            for ahead in (0, 1, 2, 3, 4, 5, 1000):
                self.assertIs(warned(kiln(), KILN_BOX, chosen, "wear", ahead), ahead <= expected)

    def test_a_paper_by_hand(self):
        box = Box([Sensor("all", 1, {word: word for word in kiln().words}, 1)])
        paper = [((state,), None, (state,)) for state in range(4)]
        self.assertEqual(warn_paper(kiln(), box, ["all"], "wear", 1), paper)
        self.assertEqual(warn_paper(kiln(), box, ["all"], "wear", 0), paper)
        self.assertIsNone(warn_paper(kiln(), box, ["all"], "wear", 2))
        run = (("heat", (1,)), ("crack", (2,)), ("glow", (3,)))
        self.assertEqual(unwarned(kiln(), box, ["all"], "wear", 2), (run, 1, (None, run[:1])))
        self.assertEqual(unwarned(kiln(), box, ["all"], "wear", 3), (run, 0, (None, ())))
        self.assertEqual(unwarned(kiln(), box, ["all"], "wear", 4), (run, -1, (None, None)))
        self.assertEqual(unwarned(kiln(), box, ["all"], "wear", 1000), (run, -1, (None, None)))

    def test_no_open_run(self):
        hand = Hand(0, [(0, "a", 0), (0, "b", 1), (1, "c", 2), (5, "d", 0)])
        works = Works([hand], bars=[{0: 1}], faults={"b": "f", "c": "f", "d": "g"})
        box = Box([Sensor("eye", 0, {"a": "s"}, 1)])
        for fault in ("f", "g"):
            for chosen in ([], ["eye"]):
                self.assertEqual(doomed(works, fault), [])
                self.assertIsNone(lead(works, box, chosen, fault))
                for ahead in (0, 1, 1000):
                    self.assertIs(warned(works, box, chosen, fault, ahead), True)
                    self.assertIsNone(unwarned(works, box, chosen, fault, ahead))
                    self.assertEqual(warn_paper(works, box, chosen, fault, ahead), [])
                    self.assertIs(is_warn_paper(works, box, chosen, fault, ahead, []), True)
                    self.assertIs(is_warn_paper(works, box, chosen, fault, ahead, [((0,), None, None)]), False)
                    self.assertIs(is_unwarned(works, box, chosen, fault, ahead, ((), 0, (None, None))), False)

    def test_the_start_is_doomed(self):
        hand = Hand(2, [(2, "go", 1), (1, "go", 0), (0, "f", 2)])
        works = Works([hand], faults={"f": "wear"})
        box = Box([Sensor("eye", 0, {"go": "s"}, 1), Lock("lock", 1, ["go"], 1)])
        run = (("go", (1,)), ("go", (0,)))
        for chosen in ([], ["eye"], ["lock"], ["lock", "eye"]):
            self.assertEqual(doomed(works, "wear"), [(0,), (1,), (2,)])
            self.assertEqual(lead(works, box, chosen, "wear"), 2)
            for ahead in (0, 1, 2):
                self.assertIs(warned(works, box, chosen, "wear", ahead), True)
                self.assertEqual(warn_paper(works, box, chosen, "wear", ahead), [])
                self.assertIs(is_warn_paper(works, box, chosen, "wear", ahead, []), True)
                first = [((2,), (2,) if "eye" in chosen else None, None)]
                self.assertIs(is_warn_paper(works, box, chosen, "wear", ahead, first), False)
                others = ((), None) if "eye" in chosen else (None, None)
                self.assertIs(is_unwarned(works, box, chosen, "wear", ahead, (run, 2 - ahead, others)), False)
            self.assertIs(warned(works, box, chosen, "wear", 3), False)
            self.assertIsNone(warn_paper(works, box, chosen, "wear", 3))
            self.assertIs(is_warn_paper(works, box, chosen, "wear", 3, []), False)
            self.assertEqual(unwarned(works, box, chosen, "wear", 3), (run, -1, (None, None)))
            self.assertIs(is_unwarned(works, box, chosen, "wear", 3, (run, -1, (None, None))), True)

    def test_a_standing_without_moves_is_not_doomed(self):
        hands = [Hand(0, [(0, "f", 1), (0, "a", 2), (2, "b", 3)])]
        both = {"f": "wear", "b": "wear"}
        self.assertEqual(doomed(Works(hands, faults=both), "wear"), [(0,), (2,)])
        self.assertEqual(doomed(Works(hands, faults={"f": "wear"}), "wear"), [])
        self.assertEqual(doomed(Works(hands, faults={"f": "wear"}, bars=[{0: 2}]), "wear"), [(0,)])
        self.assertEqual(doomed(Works(hands, faults=both, bars=[{0: 3}]), "wear"), [])

    def test_runs_that_are_shorter_than_asked(self):
        steps = [(0, "a", 1), (1, "f", 2), (0, "b", 3), (3, "b", 4), (4, "f", 2)]
        works = Works([Hand(0, steps)], faults={"f": "wear"})
        box = Box([Sensor("eye", 0, {"a": "s"}, 1)])
        self.assertEqual(lead(works, box, ["eye"], "wear"), 1)
        short, long = (("a", (1,)),), (("b", (3,)), ("b", (4,)))
        self.assertEqual(unwarned(works, box, ["eye"], "wear", 2), (short, -1, (None, None)))
        for ahead, thing, expected in [
            (2, (short, -1, (None, None)), True), (2, (long, 0, ((), None)), False),
            (2, (long, -1, (None, None)), False), (3, (long, -1, (None, None)), True),
            (3, (short, -1, (None, None)), True), (2, (short, -1, ((), None)), False),
            (2, (short, 0, ((), None)), False), (1, (short, -1, (None, None)), False),
            (1, (short, 0, ((), None)), False),
        ]:
            self.assertIs(is_unwarned(works, box, ["eye"], "wear", ahead, thing), expected)


class Compared(unittest.TestCase):
    """[33] to [36] against the tests' own workings."""

    def test_doomed_standings(self):
        numbers = []
        for _, works, _, _, fault in cases(331, 200):
            expected = doomed_by_hand(works, fault)
            numbers.append(len(expected))
            self.assertEqual(doomed(works, fault), expected)
            for standing in expected:
                self.assertTrue(works.kept_moves(standing))
                layer = {standing}
                for _ in works.kept():
                    layer = {behind for one in layer for _, behind in clean_moves(works, fault)(one)}
                self.assertEqual(layer, set())
        self.assertGreater(len(set(numbers)), 4)

    def test_whether_and_how_far_ahead(self):
        found = []
        for _, works, box, chosen, fault in cases(341, 300):
            expected = [is_warned(works, box, chosen, fault, ahead) for ahead in range(9)]
            self.assertEqual([warned(works, box, chosen, fault, ahead) for ahead in range(9)], expected)
            number = lead(works, box, chosen, fault)
            found.append(number)
            if shortest_open_run(works, fault) is None:
                self.assertIsNone(number)
                self.assertEqual(expected, [True] * 9)
            else:
                self.assertEqual(expected, [ahead <= number for ahead in range(9)])
                self.assertIs(warned(works, box, chosen, fault, 1000), False)
        for number in (None, -1, 0, 1, 2, 3):
            self.assertGreater(found.count(number), 3, number)

    def test_with_all_short_runs(self):
        unwarned_ones = 0
        for _, works, box, chosen, fault in cases(342, 80):
            for ahead in range(4):
                short = is_warned_of_short_runs(works, box, chosen, fault, ahead, 4)
                if warned(works, box, chosen, fault, ahead):
                    self.assertTrue(short)
                else:
                    unwarned_ones += 1
                    run = unwarned(works, box, chosen, fault, ahead)[0]
                    if len(run) <= 4:
                        self.assertFalse(short)
        self.assertGreater(unwarned_ones, 100)

    def test_unwarned_runs(self):
        kinds = {True: 0, False: 0}
        for _, works, box, chosen, fault in cases(351, 250):
            for ahead in (0, 1, 2, 3, 5, 1000):
                found = unwarned(works, box, chosen, fault, ahead)
                self.assertIs(found is None, is_warned(works, box, chosen, fault, ahead))
                if found is not None:
                    kinds[found[1] == -1] += 1
                    self.assertTrue(is_right_unwarned(works, box, chosen, fault, ahead, found))
                    for other in range(7):
                        expected = is_right_unwarned(works, box, chosen, fault, other, found)
                        self.assertIs(is_unwarned(works, box, chosen, fault, other, found), expected)
        self.assertGreater(kinds[True], 200)
        self.assertGreater(kinds[False], 200)

    def test_papers_have_just_the_met_triples(self):
        empty, greatest = 0, 0
        for _, works, box, chosen, fault in cases(361, 250):
            met = workings.met_triples(works, box, chosen, counting(box, chosen), words_of_fault(works, fault))
            for ahead in (0, 1, 2, 3):
                paper = warn_paper(works, box, chosen, fault, ahead)
                if not is_warned(works, box, chosen, fault, ahead):
                    self.assertIsNone(paper)
                    continue
                if shortest_open_run(works, fault) is None or workings.start_of(works) in doomed_by_hand(works, fault):
                    empty += 1
                    self.assertEqual(paper, [])
                else:
                    expected = sorted((triple for triple, faulty in met if not faulty), key=workings.none_first)
                    greatest = max(greatest, len(expected))
                    self.assertEqual(paper, expected)
                self.assertIs(is_warn_paper(works, box, chosen, fault, ahead, paper), True)
                self.assertTrue(is_right_paper(works, box, chosen, fault, ahead, paper))
        self.assertGreater(empty, 20)
        self.assertGreater(greatest, 10)

    def test_changed_unwarned_runs(self):
        judged = {True: 0, False: 0}
        for chance, works, box, chosen, fault in cases(352, 80):
            for ahead in (0, 1, 2, 4):
                found = unwarned(works, box, chosen, fault, ahead)
                if found is None:
                    continue
                runs = workings.runs_up_to(works, 2, works.moves)
                for changed in self.changed_unwarned(chance, works, found, runs):
                    expected = is_right_unwarned(works, box, chosen, fault, ahead, changed)
                    judged[expected] += 1
                    self.assertIs(is_unwarned(works, box, chosen, fault, ahead, changed), expected)
        self.assertGreater(judged[True], 300)
        self.assertGreater(judged[False], 1000)

    def changed_unwarned(self, chance, works, found, runs):
        run, at, (first, second) = found
        for number in (-1, 0, at + 1, at - 1, len(run), 10 ** 30):
            yield (run, number, (first, second))
            yield (run, number, (None, None))
        yield (run, at, (second, first))
        yield (run, at, ((), ()))
        yield (run, at, (run, run))
        for changed in [run[:-1], run[1:], run + run[-1:], *chance.sample(runs, min(len(runs), 8))]:
            yield (changed, at, (first, second))
            yield (run, at, (changed, second))
            yield (run, at, (first, changed))
            yield (changed, at, (changed, changed))
            yield (changed, -1, (None, None))
        for move in works.moves(end(works, run)):
            yield (run + (move,), at, (first, second))
            yield (run + (move,), at + 1, (first, second))

    def test_changed_papers(self):
        judged = {True: 0, False: 0}
        for chance, works, box, chosen, fault in cases(362, 250):
            for ahead in (0, 1, 2):
                paper = warn_paper(works, box, chosen, fault, ahead)
                if paper is None or len(paper) > 40:
                    continue
                for changed in self.changed_papers(chance, works, box, chosen, paper):
                    expected = is_right_paper(works, box, chosen, fault, ahead, changed)
                    judged[expected] += 1
                    self.assertIs(is_warn_paper(works, box, chosen, fault, ahead, changed), expected)
        self.assertGreater(judged[True], 100)
        self.assertGreater(judged[False], 500)

    def changed_papers(self, chance, works, box, chosen, paper):
        yield chance.sample(paper, len(paper)) + paper[:2]
        yield []
        start, counts = workings.start_of(works), counting(box, chosen)
        yield [(start, *(start if one else None for one in counts))]
        yield [
            (one, *(two if counts[0] else None, three if counts[1] else None))
            for one in works.kept() for two in works.kept()[:8] for three in works.kept()[:8]
        ]
        for at in chance.sample(range(len(paper)), min(len(paper), 3)):
            yield paper[:at] + paper[at + 1:]
        for _ in range(4):
            triple = tuple(chance.choice(works.kept()) if one else None for one in [True, *counts])
            yield paper + [triple]
            yield [triple if one == paper[-1] else one for one in paper]


class Judges(Refusing):
    """[5], [35], [36] the judges and things of other kinds."""

    def test_papers_of_other_kinds(self):
        paper = warn_paper(kiln(), KILN_BOX, ["far"], "wear", 0)
        self.assertIs(is_warn_paper(kiln(), KILN_BOX, ["far"], "wear", 0, paper), True)
        for thing in [tuple(paper), dict.fromkeys(paper), paper[0], [list(one) for one in paper], (paper,), [paper],
                      None, [one[:2] for one in paper], [(*one, None) for one in paper], {"paper": paper}, iter(paper)]:
            self.assertIs(is_warn_paper(kiln(), KILN_BOX, ["far"], "wear", 0, thing), False)
        for wrong in [None, (), (4, 0), (True,), (1.0,), [1], 1, "1", (99,), (-1,), (None,), False]:
            for triple in [(wrong, None, (1,)), ((1,), wrong, (1,)), ((1,), None, wrong)]:
                if triple != ((1,), None, (1,)) or wrong is not None and not is_plain_integer(wrong[0]):
                    self.assertIs(is_warn_paper(kiln(), KILN_BOX, ["far"], "wear", 0, paper + [triple]), False)
        self.assertIs(is_warn_paper(kiln(), KILN_BOX, ["eye"], "wear", 0, paper), False)

    def test_runs_of_other_kinds(self):
        run, at, others = unwarned(kiln(), KILN_BOX, ["ear"], "wear", 1)
        self.assertIs(is_unwarned(kiln(), KILN_BOX, ["ear"], "wear", 1, (run, at, others)), True)
        self.assertEqual(at, 2)
        for thing in [[run, at, others], (run, at, list(others)), (list(run), at, others), (run, float(at), others),
                      (run, others), (run, at, others, None), (run, at, others[:1]), (run, at, (*others, None)), run,
                      (run, str(at), others), (run, at, (list(others[0]), None)), (run, at, (others[0], False)),
                      ((("heat", (True,)), *run[1:]), at, others), (run, None, others), (run, at, None)]:
            self.assertIs(is_unwarned(kiln(), KILN_BOX, ["ear"], "wear", 1, thing), False)
        run = (("heat", (1,)), ("crack", (2,)), ("glow", (3,)))
        for at, expected in [(1, True), (True, False), (1.0, False)]:
            thing = (run, at, (run[:1], None))
            self.assertIs(is_unwarned(kiln(), KILN_BOX, ["ear"], "wear", 2, thing), expected)
        for at, expected in [(-1, True), (-1.0, False), (0, False), (None, False)]:
            self.assertIs(is_unwarned(kiln(), KILN_BOX, ["ear"], "wear", 4, (run, at, (None, None))), expected)
        for others in [(None, False), (0, None), ((), None), [None, None], None, (None,), (None, None, None)]:
            self.assertIs(is_unwarned(kiln(), KILN_BOX, ["ear"], "wear", 4, (run, -1, others)), False)

    def test_just_this_number(self):
        run, at, others = unwarned(kiln(), KILN_BOX, ["ear"], "wear", 1)
        for ahead in (0, 2, 3):
            self.assertIs(is_unwarned(kiln(), KILN_BOX, ["ear"], "wear", ahead, (run, at, others)), False)

    def test_strange_things(self):
        paper = warn_paper(kiln(), KILN_BOX, ["far"], "wear", 0)
        run, at, others = unwarned(kiln(), KILN_BOX, ["ear"], "wear", 1)
        for thing in strange_things():
            for wrong in [
                thing, (thing,), [thing], paper + [thing], paper + [(thing,) * 3], paper + [((9,), None, thing)],
            ]:
                self.assertIs(is_warn_paper(kiln(), KILN_BOX, ["far"], "wear", 0, wrong), False)
            for wrong in [
                thing, (thing,) * 3, (thing, at, others), (run, at, thing), (run, at, (thing, thing)), [run, at, thing],
                ((*run, thing), at, others), (run, at, (others[0] + (thing,), None)),
                (run, at, (others[0], thing, None)),
            ]:
                self.assertIs(is_unwarned(kiln(), KILN_BOX, ["ear"], "wear", 1, wrong), False)
            is_at = is_plain_integer(thing) and thing == at
            self.assertIs(is_unwarned(kiln(), KILN_BOX, ["ear"], "wear", 1, (run, thing, others)), is_at)
            if thing is not None:
                self.assertIs(is_unwarned(kiln(), KILN_BOX, ["ear"], "wear", 1, (run, at, (others[0], thing))), False)
                self.assertIs(is_unwarned(kiln(), KILN_BOX, ["ear"], "wear", 4, (run, -1, (None, thing))), False)


class Refused(OrderOfErrors, Refusing):
    """[17], [23], [34] the errors in their order."""

    def calls(self, works, box):
        def with_paper(chosen, fault, ahead):
            return is_warn_paper(works, box, chosen, fault, ahead, None)

        def with_run(chosen, fault, ahead):
            return is_unwarned(works, box, chosen, fault, ahead, None)

        def how_far(chosen, fault, ahead):
            return lead(works, box, chosen, fault)

        return [
            lambda *asked: warned(works, box, *asked), lambda *asked: unwarned(works, box, *asked),
            lambda *asked: warn_paper(works, box, *asked), with_run, with_paper, how_far,
        ]

    def test_faults_of_doomed(self):
        for thing in [*strange_things(), "slip", "hot", "Wear", ["wear"], ("wear",), b"wear"]:
            self.refuses(BadFault, thing, doomed, plant(), thing)
        self.refuses(BadFault, "wear", doomed, Works(plant().hands), "wear")

    def test_3000_triples_but_not_more(self):
        steps, fault = [(0, "f", 50)], {"f": "wear"}
        box = box_of_3000()
        exact = works_of_3000((), steps, faults=fault)
        self.assertEqual(lead(exact, box, ALL_OF_3000, "wear"), -1)
        for ahead in (0, 1, 1000):
            self.assertIs(warned(exact, box, ALL_OF_3000, "wear", ahead), False)
            found = unwarned(exact, box, ALL_OF_3000, "wear", ahead)
            self.assertIs(is_unwarned(exact, box, ALL_OF_3000, "wear", ahead, found), True)
            self.assertIsNone(warn_paper(exact, box, ALL_OF_3000, "wear", ahead))
            self.assertIs(is_warn_paper(exact, box, ALL_OF_3000, "wear", ahead, triples_of_3000()), False)
        over = works_of_3001((), steps, faults=fault)
        for call in [*self.calls(over, box)[:3], self.calls(over, box)[5]]:
            for ahead in (0, 1, 1000):
                self.refuses(TooMany, 3000, call, ALL_OF_3000, "wear", ahead)
        for chosen in [["left"], ["right", "lefty", "righty"], []]:
            self.assertEqual(lead(over, box, chosen, "wear"), -1)
        self.assertIs(is_unwarned(over, box, ALL_OF_3000, "wear", 0, ((), 0, ((), ()))), True)
        self.assertIs(is_unwarned(over, box, ALL_OF_3000, "wear", 1, ((), -1, (None, None))), True)
        self.assertIs(is_warn_paper(over, box, ALL_OF_3000, "wear", 0, triples_of_3001()), False)

    def test_papers_of_so_many(self):
        """The fault is made at the end alone, which is doomed and which all posts see coming."""
        box = Box([
            Sensor("left", 0, {"x": "turn", "e": "end"}, 1), Sensor("right", 1, {"x": "turn", "e": "end"}, 1),
        ])
        works = works_of_3001((), [(20, "f", 20)], faults={"f": "wear"})
        self.assertIs(is_warn_paper(works, box, ["left", "right"], "wear", 0, triples_of_3001()), True)
        self.assertIs(is_warn_paper(works, box, ["left", "right"], "wear", 0, triples_of_3001()[1:]), False)
        self.assertIs(is_warn_paper(works, box, ["left", "right"], "wear", 1, triples_of_3001()), False)
        self.refuses(TooMany, 3000, warn_paper, works, box, ["left", "right"], "wear", 0)

    def test_also_where_no_sight_matters(self):
        """The count is made first, also without an open run, and where the start is doomed."""
        box = box_of_3000()
        exact = works_of_3000([(9, "y", 9)], faults={"y": "wear"})
        self.assertIsNone(lead(exact, box, ALL_OF_3000, "wear"))
        self.assertEqual(warn_paper(exact, box, ALL_OF_3000, "wear", 0), [])
        over = works_of_3001([(9, "y", 9)], faults={"y": "wear"})
        for call in [*self.calls(over, box)[:3], self.calls(over, box)[5]]:
            self.refuses(TooMany, 3000, call, ALL_OF_3000, "wear", 0)
        self.assertIs(is_warn_paper(over, box, ALL_OF_3000, "wear", 0, []), True)

    def test_words_of_the_fault_do_not_count(self):
        """In telling there are two colours, here there is one."""
        box = Box([
            Sensor("left", 0, {"x": "turn", "e": "end"}, 1),
            Sensor("right", 1, {"x": "turn", "y": "twist", "e": "end"}, 1),
        ])
        extra = [(0, "e", 20)]
        works = Works([
            Hand(0, [*ring(3, "x"), (0, "f", 0), *extra]), Hand(0, [*ring(2, "y"), *extra]),
            Hand(0, [*ring(5, "z"), *extra]),
        ], faults={"f": "wear"})
        self.refuses(TooMany, 3000, late, works, box, ["left", "right"], "wear")
        self.assertEqual(lead(works, box, ["left", "right"], "wear"), -1)
        # The end is met by the fault alone: then it is not counted.
        works = works_of_3001(faults={"e": "wear"})
        self.assertEqual(lead(works, box_of_3000(), ALL_OF_3000, "wear"), -1)


class Same(unittest.TestCase):
    """[3] what is passed stays, what is returned is new, equal arguments give equal values."""

    def test_equal_arguments(self):
        chance = random.Random(371)
        for _ in range(80):
            parts = some_parts(chance) if chance.random() < 0.4 else some_brittle_parts(chance)
            works = Works(**parts)
            box = some_box(chance, works, 6)
            chosen = chance.choice([some_set(chance, box), box.names()])
            other = (turned(chance, parts), turned_box(chance, box), turned_set(chance, chosen))
            for fault in works.faults:
                self.assertEqual(lead(works, box, chosen, fault), lead(*other, fault))
                self.assertEqual(doomed(works, fault), doomed(other[0], fault))
                for ahead in (0, 1, 3):
                    for call in (unwarned, warn_paper, warned):
                        self.assertEqual(call(works, box, chosen, fault, ahead), call(*other, fault, ahead))

    def test_nothing_passed_is_changed(self):
        chosen = ["far", "ear"]
        paper = warn_paper(kiln(), KILN_BOX, chosen, "wear", 0)
        before = copy.deepcopy((chosen, paper))
        self.assertIs(is_warn_paper(kiln(), KILN_BOX, chosen, "wear", 0, paper), True)
        self.assertEqual((chosen, paper), before)
        paper.clear()
        doomed(kiln(), "wear").clear()
        self.assertEqual(warn_paper(kiln(), KILN_BOX, chosen, "wear", 0), before[1])
        self.assertEqual(doomed(kiln(), "wear"), [(2,), (3,)])

    def test_what_is_foretold_stays_foretold_with_more_instruments(self):
        more = 0
        for chance, works, box, chosen, fault in cases(372, 250):
            few = [name for name in chosen if chance.random() < 0.7]
            one, other = lead(works, box, few, fault), lead(works, box, chosen, fault)
            self.assertIs(one is None, other is None)
            if one is not None:
                self.assertLessEqual(one, other)
                more += one < other
        self.assertGreater(more, 5)


if __name__ == "__main__":
    unittest.main()
