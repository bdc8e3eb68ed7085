import copy
import random
import unittest

from tests import workings
from tests.chance import some_box, some_parts, some_set, some_works, some_worn_parts, turned, turned_box, turned_set
from tests.fault_errors import OrderOfErrors
from tests.nets import ALL_OF_3000, box_of_3000, ring, triples_of_3000, triples_of_3001, works_of_3000, works_of_3001
from tests.test_keeping import example_box, is_kept
from tests.test_works_told import plant
from tests.things import Refusing, is_plain_integer, strange_things
from tests.workings import has, sights_of, words_of_fault
from watchedworks.boxes import Box
from watchedworks.errors import TooMany
from watchedworks.hands import Hand
from watchedworks.instruments import Lock, Sensor
from watchedworks.telling import is_tell_paper, is_untold, late, tell_paper, told, untold
from watchedworks.works import Works


def counting(box, chosen):
    return [has(box, chosen, post, Sensor) for post in (0, 1)]


def is_unknown(counts, clean):
    """Whether no post knows: each that counts holds a run without the fault possible."""
    return all(clean[post] or not counts[post] for post in (0, 1))


def late_by_estimates(works, box, chosen, fault):
    """The latest time, worked out with where each post thinks the works can be if there was no fault."""
    words, counts = words_of_fault(works, fault), counting(box, chosen)

    def behind(place, word, standing):
        clean = [workings.behind_word(works, box, chosen, post, place[post + 1], word, words) for post in (0, 1)]
        return (standing, *clean)

    start = workings.start_of(works)
    first = (start, *(workings.unseen(works, box, chosen, post, {start}, words) for post in (0, 1)))
    plain, waiting = {first}, [first]
    while waiting:
        place = waiting.pop()
        new = {behind(place, *move) for move in works.kept_moves(place[0]) if move[0] not in words} - plain
        plain |= new
        waiting += new
    unknown = {
        behind(place, *move) for place in plain for move in works.kept_moves(place[0]) if move[0] in words
    }
    earlier, age = [], 0
    while True:
        unknown = frozenset(place for place in unknown if is_unknown(counts, place[1:]))
        if not unknown:
            return age
        if unknown in earlier:
            return None
        earlier.append(unknown)
        unknown = {behind(place, *move) for place in unknown for move in works.kept_moves(place[0])}
        age += 1


def age_of(works, fault, run):
    words = words_of_fault(works, fault)
    places = [at for at, (word, _) in enumerate(run) if word in words]
    return len(run) - places[0] - 1 if places else None


def latest_of_short_runs(works, box, chosen, fault, most):
    """The least number that all kept runs of at most so many moves allow for the time."""
    words, counts = words_of_fault(works, fault), counting(box, chosen)
    found = 0
    for run in workings.runs_up_to(works, most, works.kept_moves):
        age = age_of(works, fault, run)
        if age is not None and is_unknown(counts, [
            workings.estimate(works, box, chosen, post, sights_of(box, chosen, post, run), words) for post in (0, 1)
        ]):
            found = max(found, age + 1)
    return found


def are_right_others(works, box, chosen, fault, run, others):
    words = words_of_fault(works, fault)
    for post in (0, 1):
        if not has(box, chosen, post, Sensor):
            if others[post] is not None:
                return False
        elif others[post] is None or not is_kept(works, others[post]) or any(w in words for w, _ in others[post]):
            return False
        elif sights_of(box, chosen, post, run) != sights_of(box, chosen, post, others[post]):
            return False
    return True


def is_right_untold(works, box, chosen, fault, within, thing):
    run, others = thing
    if not is_kept(works, run) or age_of(works, fault, run) is None or age_of(works, fault, run) < within:
        return False
    return are_right_others(works, box, chosen, fault, run, others)


def is_right_tell_paper(works, box, chosen, fault, within, paper):
    """Of a list and a dict of triples of kept standings, with None where it has to be: whether it is a tell paper."""
    plain, numbers = paper
    words, counts = words_of_fault(works, fault), counting(box, chosen)
    start = workings.start_of(works)
    if (start, *(start if one else None for one in counts)) not in plain:
        return False
    for triple in plain:
        for behind, faulty, _ in workings.steps_behind(works, box, chosen, counts, words, (triple, False)):
            if not (behind in numbers and numbers[behind] < within if faulty else behind in plain):
                return False
    for triple, number in numbers.items():
        for behind, _, kind in workings.steps_behind(works, box, chosen, counts, words, (triple, True)):
            if behind not in numbers or numbers[behind] > number - (kind == "own"):
                return False
    return all(number >= 0 for number in numbers.values())


def cases(seed, number):
    chance = random.Random(seed)
    for _ in range(number):
        works = Works(**some_worn_parts(chance)) if chance.random() < 0.6 else some_works(chance, bars=1)
        box = some_box(chance, works, 6)
        chosen = chance.choice([some_set(chance, box), box.names()])
        yield chance, works, box, chosen, chance.choice(works.faults)


def slow():
    """A fault that is told three moves later, when the lamp that should go on does not."""
    hand = Hand(0, [(0, "run", 1), (1, "warm", 2), (2, "lamp", 0), (0, "break", 3), (3, "run", 4), (4, "warm", 5),
                    (5, "dark", 6), (6, "halt", 6)])
    return Works([hand], faults={"break": "wear"})


SLOW_BOX = Box([
    Sensor("ear", 0, {"run": "hum", "warm": "hum"}, 1), Sensor("eye", 0, {"lamp": "light", "dark": "none"}, 1),
    Sensor("far", 1, {"halt": "still"}, 1), Lock("lock", 1, ["run"], 1),
])


class Example(Refusing):
    """What the example says of late, and more by hand."""

    def test_the_example(self):
        self.assertIsNone(late(plant(), example_box(), ["ear"], "wear"))
        self.assertEqual(late(plant(), example_box(), ["eye"], "wear"), 0)
        self.assertEqual(late(plant(), example_box(), ("eye", "ear", "valve"), "wear"), 0)
        self.assertIsNone(late(plant(), example_box(), [], "wear"))
        self.assertIsNone(late(plant(), example_box(), ["valve"], "wear"))
        for within in (0, 1, 1000):
            self.assertIs(told(plant(), example_box(), ["ear"], "wear", within), False)
            self.assertIs(told(plant(), example_box(), ["eye"], "wear", within), True)
            self.assertIsNone(untold(plant(), example_box(), ["eye"], "wear", within))
            self.assertIsNone(tell_paper(plant(), example_box(), ["ear"], "wear", within))

    def test_late_by_hand(self):
        for chosen, expected in [
            (["eye"], 3), (["ear", "eye"], 3), (["far"], 4), (["far", "eye", "ear", "lock"], 3), (["far", "ear"], 4),
            (["ear"], None), ([], None), (["lock"], None),
        ]:
            self.assertEqual(late(slow(), SLOW_BOX, chosen, "wear"), expected, chosen)
            for within in (0, 1, 2, 3, 4, 5, 999, 1000):
                self.assertIs(
                    told(slow(), SLOW_BOX, chosen, "wear", within), expected is not None and expected <= within,
                )

    def test_a_paper_by_hand(self):
        box = Box([Sensor("all", 1, {word: word for word in slow().words if word != "break"}, 1)])
        plain, numbers = tell_paper(slow(), box, ["all"], "wear", 3)
        self.assertEqual(plain, [((state,), None, (state,)) for state in range(3)])
        self.assertEqual(numbers, {((3,), None, (0,)): 2, ((4,), None, (1,)): 1, ((5,), None, (2,)): 0})
        self.assertEqual(list(numbers), sorted(numbers))
        self.assertIsNone(tell_paper(slow(), box, ["all"], "wear", 2))
        run, others = untold(slow(), box, ["all"], "wear", 2)
        self.assertEqual(run, (("break", (3,)), ("run", (4,)), ("warm", (5,))))
        self.assertEqual(others, (None, (("run", (1,)), ("warm", (2,)))))

    def test_a_run_that_cannot_go_on_is_no_reason_for_none(self):
        works = Works([Hand(0, [(0, "a", 0), (0, "b", 1), (1, "a", 2)])], faults={"b": "f"})
        box = Box([Sensor("eye", 0, {"a": "s"}, 1)])
        self.assertEqual(late(works, box, ["eye"], "f"), 2)
        self.assertEqual(late(works, box, [], "f"), 2)
        self.assertEqual(late(Works([Hand(0, [(0, "b", 1)])], faults={"b": "f"}), box, [], "f"), 1)

    def test_posts_steps_round_and_round_take_no_time(self):
        """Behind the fault the run soon ends, but the post can think for ever that words go on that it does not see."""
        works = Works([
            Hand(0, [(0, "a", 1), (1, "b", 0), (0, "f", 2), (2, "c", 3), (3, "c", 4), (1, "c", 0)]),
        ], faults={"f": "wear"})
        box = Box([Sensor("eye", 0, {"c": "s"}, 1)])
        self.assertEqual(late(works, box, ["eye"], "wear"), 3)
        plain, numbers = tell_paper(works, box, ["eye"], "wear", 3)
        self.assertEqual({numbers[((2,), (state,), None)] for state in (0, 1)}, {2})

    def test_a_post_that_cannot_think_its_way_back(self):
        """The post may think of the way from 5 to 1 with or without a sight, but of none back: this is no way round."""
        works = Works([Hand(5, [(5, "v", 1), (5, "u", 1), (5, "f", 9), (9, "v", 9)])], faults={"f": "wear"})
        box = Box([Sensor("eye", 0, {"v": "s"}, 1)])
        self.assertEqual(late(works, box, ["eye"], "wear"), 2)
        plain, numbers = tell_paper(works, box, ["eye"], "wear", 2)
        self.assertEqual(sorted(numbers), [((9,), (1,), None), ((9,), (5,), None)])
        self.assertGreater(numbers[((9,), (5,), None)], numbers[((9,), (1,), None)])

    def test_the_fault_that_stays_unknown_for_longest(self):
        works = Works([Hand(0, [
            (0, "f", 1), (0, "a", 2), (2, "f", 3), (3, "b", 4), (4, "b", 5), (2, "a", 6), (6, "f", 4),
        ])], faults={"f": "wear"})
        box = Box([Sensor("eye", 0, {"c": "s"}, 1)])
        for chosen in ([], ["eye"]):
            self.assertEqual(late(works, box, chosen, "wear"), 3)
            run = untold(works, box, chosen, "wear", 2)[0]
            self.assertEqual(run, (("a", (2,)), ("f", (3,)), ("b", (4,)), ("b", (5,))))
            self.assertIsNone(untold(works, box, chosen, "wear", 3))

    def test_the_way_on_that_stays_unknown_for_longest(self):
        works = Works([Hand(0, [
            (0, "f", 1), (1, "a", 3), (1, "b", 2), (2, "a", 3), (3, "b", 4), (1, "a", 9),
        ])], faults={"f": "wear"})
        self.assertEqual(late(works, example_box(), [], "wear"), 4)
        self.assertEqual(untold(works, example_box(), [], "wear", 3), (
            (("f", (1,)), ("b", (2,)), ("a", (3,)), ("b", (4,))), (None, None),
        ))

    def test_faults_that_no_kept_run_has(self):
        hand = Hand(0, [(0, "a", 0), (0, "b", 1), (1, "c", 2), (5, "d", 0)])
        works = Works([hand], bars=[{0: 1}], faults={"b": "f", "c": "f", "d": "g"})
        box = Box([Sensor("eye", 0, {"a": "s"}, 1)])
        for fault in ("f", "g"):
            for chosen in ([], ["eye"]):
                self.assertEqual(late(works, box, chosen, fault), 0)
                self.assertIs(told(works, box, chosen, fault, 0), True)
                self.assertIsNone(untold(works, box, chosen, fault, 0))
                paper = ([((0,), (0,) if chosen else None, None)], {})
                self.assertEqual(tell_paper(works, box, chosen, fault, 0), paper)
                self.assertIs(is_tell_paper(works, box, chosen, fault, 0, paper), True)

    def test_either_post_may_be_the_one_that_knows(self):
        box = Box([Sensor("one", 0, {"slip": "s"}, 1), Sensor("two", 1, {"slip": "s"}, 1),
                   Sensor("deaf", 0, {"stop": "t"}, 1), Sensor("blind", 1, {"stop": "t"}, 1)])
        for chosen in [["one", "blind"], ["two", "deaf"], ["one"], ["two"], ["one", "two"]]:
            self.assertEqual(late(plant(), box, chosen, "wear"), 0)
        for chosen in [["deaf", "blind"], ["deaf"]]:
            self.assertIsNone(late(plant(), box, chosen, "wear"))

    def test_what_posts_know_together_does_not_count(self):
        """Each post alone can take the word f for another one: only both together could not."""
        hand = Hand(0, [(0, "f", 1), (0, "a", 2), (0, "b", 3), (1, "c", 1), (2, "c", 2), (3, "c", 3)])
        works = Works([hand], faults={"f": "wear"})
        box = Box([Sensor("one", 0, {"f": "s", "a": "s", "b": "t"}, 1), Sensor("two", 1, {"f": "s", "b": "s"}, 1)])
        self.assertIsNone(late(works, box, ["one", "two"], "wear"))
        self.assertEqual(untold(works, box, ["one", "two"], "wear", 0), (
            (("f", (1,)),), ((("a", (2,)),), (("b", (3,)),)),
        ))

    def test_two_faults(self):
        hand = Hand(0, [(0, "a", 0), (0, "f", 1), (1, "g", 2), (2, "h", 2)])
        works = Works([hand], faults={"f": "x", "g": "y", "h": "y"})
        box = Box([Sensor("eye", 0, {"g": "s", "a": "s"}, 1), Sensor("ear", 1, {"h": "t"}, 1)])
        self.assertIsNone(late(works, box, ["eye"], "x"))
        self.assertIsNone(late(works, box, ["eye"], "y"))
        self.assertEqual(late(works, box, ["ear"], "x"), 2)
        self.assertEqual(late(works, box, ["ear"], "y"), 1)


class Compared(unittest.TestCase):
    """[29] to [32] against the tests' own workings."""

    def test_how_late_faults_are(self):
        found = []
        for _, works, box, chosen, fault in cases(301, 350):
            expected = late_by_estimates(works, box, chosen, fault)
            found.append(expected)
            self.assertEqual(late(works, box, chosen, fault), expected)
            for within in (0, 1, 2, 3, 4, 1000):
                is_in_time = expected is not None and expected <= within
                self.assertIs(told(works, box, chosen, fault, within), is_in_time)
        for number in (None, 0, 1, 2, 3):
            self.assertGreater(found.count(number), 3, number)

    def test_with_all_short_runs(self):
        numbers = []
        for _, works, box, chosen, fault in cases(302, 60):
            expected = latest_of_short_runs(works, box, chosen, fault, 4)
            numbers.append(expected)
            number = late(works, box, chosen, fault)
            self.assertTrue(number is None or expected <= number)
            if expected > 0:
                self.assertIs(told(works, box, chosen, fault, expected - 1), False)
            if number is not None and number < 3:
                self.assertEqual(expected, number)
        self.assertGreater(len(set(numbers)), 3)

    def test_untold_runs(self):
        number = 0
        for _, works, box, chosen, fault in cases(303, 200):
            for within in (0, 1, 2, 7, 40):
                found = untold(works, box, chosen, fault, within)
                self.assertIs(found is None, told(works, box, chosen, fault, within))
                if found is not None:
                    number += 1
                    self.assertEqual(age_of(works, fault, found[0]), within)
                    self.assertTrue(is_right_untold(works, box, chosen, fault, within, found))
                    for less in range(within + 1):
                        self.assertIs(is_untold(works, box, chosen, fault, less, found), True)
                    self.assertIs(is_untold(works, box, chosen, fault, within + 1, found), False)
        self.assertGreater(number, 200)

    def test_old_runs(self):
        run, others = untold(plant(), example_box(), ["ear"], "wear", 1000)
        self.assertEqual(age_of(plant(), "wear", run), 1000)
        self.assertIs(is_untold(plant(), example_box(), ["ear"], "wear", 1000, (run, others)), True)
        self.assertTrue(is_right_untold(plant(), example_box(), ["ear"], "wear", 1000, (run, others)))

    def test_papers_have_just_the_met_triples(self):
        greatest = 0
        for _, works, box, chosen, fault in cases(304, 150):
            within = late(works, box, chosen, fault)
            if within is None:
                self.assertIsNone(tell_paper(works, box, chosen, fault, 1000))
                continue
            met = workings.met_triples(works, box, chosen, counting(box, chosen), words_of_fault(works, fault))
            for more in (0, 1, 900):
                paper = tell_paper(works, box, chosen, fault, within + more)
                plain, numbers = paper
                for row, colour in [(plain, False), (list(numbers), True)]:
                    self.assertEqual(row, sorted((t for t, faulty in met if faulty is colour), key=workings.none_first))
                self.assertIs(is_tell_paper(works, box, chosen, fault, within + more, paper), True)
                self.assertTrue(is_right_tell_paper(works, box, chosen, fault, within + more, paper))
                greatest = max(greatest, len(numbers))
            if within > 0:
                self.assertIsNone(tell_paper(works, box, chosen, fault, within - 1))
                self.assertIs(is_tell_paper(works, box, chosen, fault, within - 1, paper), False)
        self.assertGreater(greatest, 10)

    def test_changed_untold_runs(self):
        judged = {True: 0, False: 0}
        for chance, works, box, chosen, fault in cases(305, 60):
            found = untold(works, box, chosen, fault, 1)
            if found is None:
                continue
            runs = workings.runs_up_to(works, 2, works.moves)
            for within in (0, 1, 2):
                for changed in self.changed_untold(chance, works, found, runs):
                    expected = is_right_untold(works, box, chosen, fault, within, changed)
                    judged[expected] += 1
                    self.assertIs(is_untold(works, box, chosen, fault, within, changed), expected)
        self.assertGreater(judged[True], 100)
        self.assertGreater(judged[False], 500)

    def changed_untold(self, chance, works, found, runs):
        run, (first, second) = found
        yield (run, (second, first))
        yield (run, (None, None))
        yield (run, (run, run))
        for changed in [run[:-1], run[1:], run + run[-1:], *chance.sample(runs, min(len(runs), 8))]:
            yield (changed, (first, second))
            yield (run, (changed, second))
            yield (run, (first, changed))
            yield (changed, (changed, changed))
        for move in works.moves(workings.end(works, run)):
            yield (run + (move,), (first, second))
            if first is not None:
                yield (run + (move,), (first + (move,), second))

    def test_changed_papers(self):
        judged = {True: 0, False: 0}
        for chance, works, box, chosen, fault in cases(306, 400):
            within = late(works, box, chosen, fault)
            if within is None:
                continue
            paper = tell_paper(works, box, chosen, fault, within)
            if 0 < len(paper[1]) and len(paper[0]) < 60:
                for changed in self.changed_papers(chance, works, box, chosen, paper):
                    for time in (within, within + 1):
                        expected = is_right_tell_paper(works, box, chosen, fault, time, changed)
                        judged[expected] += 1
                        self.assertIs(is_tell_paper(works, box, chosen, fault, time, changed), expected)
        self.assertGreater(judged[True], 100)
        self.assertGreater(judged[False], 500)

    def changed_papers(self, chance, works, box, chosen, paper):
        plain, numbers = paper
        yield (chance.sample(plain, len(plain)) + plain, dict(reversed(numbers.items())))
        yield ([], numbers)
        yield (plain, {})
        for _ in range(3):
            triple = chance.choice(plain)
            yield ([one for one in plain if one != triple], numbers)
            triple = chance.choice(list(numbers))
            yield (plain, {one: numbers[one] for one in numbers if one != triple})
            for number in (numbers[triple] + 1, numbers[triple] - 1, 0, 10 ** 30):
                yield (plain, {**numbers, triple: number})
            triple = tuple(
                chance.choice(works.kept()) if one else None for one in [True, *counting(box, chosen)]
            )
            yield (plain + [triple], numbers)
            yield (plain, {**numbers, triple: chance.randrange(3)})
        yield (plain, {one: numbers[one] + 1 for one in numbers})
        yield (plain, {one: 2 * numbers[one] for one in numbers})


class Judges(Refusing):
    """[5], [31], [32] the judges and things of other kinds."""

    PAPER = ([((0,), (0,), None), ((0,), (1,), None), ((1,), (0,), None), ((1,), (1,), None)], {})

    def paper_is(self, thing, expected):
        self.assertIs(is_tell_paper(plant(), example_box(), ["eye"], "wear", 0, thing), expected)

    def test_papers_of_other_kinds(self):
        rows, numbers = self.PAPER
        self.paper_is(self.PAPER, True)
        for thing in [
            [rows, numbers], (tuple(rows), numbers), (rows, []), (rows, None), (rows,), (rows, numbers, None), rows,
            numbers, (numbers, rows), (dict.fromkeys(rows), numbers), (rows, list(numbers.items())),
        ]:
            self.paper_is(thing, False)
        for at, wrong in enumerate([(0,), (0,), None]):
            for one in [None, (0,), [0], (True,), (False,), (0.0,), (99,), (3,), (0, 0), (), 0, "0", False]:
                triple = tuple(one if place == at else part for place, part in enumerate([(0,), (0,), None]))
                if (one is None) != (wrong is None) or one not in [None, (0,)] or not is_plain(one):
                    self.paper_is((rows + [triple], numbers), False)

    def test_keys_and_numbers_of_other_kinds(self):
        hand = Hand(0, [(0, "a", 0), (0, "f", 1), (1, "b", 1)])
        works, box = Works([hand], faults={"f": "wear"}), Box([Sensor("eye", 1, {"a": "s", "b": "t"}, 1)])
        first, faulty = ((0,), None, (0,)), ((1,), None, (0,))
        self.assertEqual(late(works, box, ["eye"], "wear"), 1)
        for number, expected in [(0, True), (False, False), (0.0, False), (-1, False), (None, False), ("0", False),
                                 ([], False), (1, False), ((0,), False)]:
            self.assertIs(is_tell_paper(works, box, ["eye"], "wear", 1, ([first], {faulty: number})), expected)
        for number, expected in [(1, True), (True, False), (10 ** 5000, False), (-(10 ** 5000), False), (1.0, False)]:
            self.assertIs(is_tell_paper(works, box, ["eye"], "wear", 2, ([first], {faulty: number})), expected)
        for key in [((True,), None, (0,)), ((1.0,), None, (0,)), ((1,), None, (False,)), ((1,), (0,), (0,)),
                    ((1,), None, None), ((1,), (0,), None), ((1,), (0,))]:
            self.assertIs(is_tell_paper(works, box, ["eye"], "wear", 1, ([first], {key: 0})), False)
            self.assertIs(is_tell_paper(works, box, ["eye"], "wear", 1, ([first], {key: 0, faulty: 0})), False)
        self.assertIs(is_tell_paper(works, box, ["eye"], "wear", 1, ([first, first], {faulty: 0, first: 5})), False)
        self.assertIs(is_tell_paper(works, box, ["eye"], "wear", 1, ([first, ((1,), None, (1,))], {faulty: 0})), True)

    def test_strange_things(self):
        rows, numbers = self.PAPER
        run, others = untold(plant(), example_box(), ["ear"], "wear", 1)
        for thing in strange_things():
            for wrong in [thing, (thing, thing), (thing, numbers), (rows, thing), (rows + [thing], numbers)]:
                self.paper_is(wrong, wrong == self.PAPER)
            try:
                key = {thing: 0}
            except TypeError:
                key = {}
            if key:
                self.paper_is((rows, key), False)
            self.paper_is((rows, {((2,), (0,), None): thing}), False)
            for wrong in [
                thing, (thing, others), (run, thing), (run, (thing, thing)), ((*run, thing), others),
                (run, [thing, None]), (run, (others[0] + (thing,), None)), (run, others, thing), (thing,) * 2,
            ]:
                self.assertIs(is_untold(plant(), example_box(), ["ear"], "wear", 1, wrong), False)
            if thing is not None:
                self.assertIs(is_untold(plant(), example_box(), ["ear"], "wear", 1, (run, (others[0], thing))), False)

    def test_untold_runs_of_other_kinds(self):
        run, others = untold(plant(), example_box(), ["ear"], "wear", 1)
        for wrong in [[run, others], (run, list(others)), (run, others[:1]), (run, (*others, None)),
                      (list(run), others), (run, (list(others[0]), None)), (run, (None, None)),
                      (run, (others[0], ())), (run,), run,
                      ((("start", (True,)), *run[1:]), others), (run, (others[0], False))]:
            self.assertIs(is_untold(plant(), example_box(), ["ear"], "wear", 1, wrong), False)


def is_plain(one):
    return one is None or all(is_plain_integer(state) for state in one)


class Refused(OrderOfErrors, Refusing):
    """[17], [23], [30] the errors in their order."""

    def calls(self, works, box):
        def with_paper(chosen, fault, within):
            return is_tell_paper(works, box, chosen, fault, within, None)

        def with_run(chosen, fault, within):
            return is_untold(works, box, chosen, fault, within, None)

        def how_late(chosen, fault, within):
            return late(works, box, chosen, fault)

        return [
            lambda *asked: told(works, box, *asked), lambda *asked: untold(works, box, *asked),
            lambda *asked: tell_paper(works, box, *asked), with_run, with_paper, how_late,
        ]

    def test_3000_triples_but_not_more(self):
        box, fault = box_of_3000(), {"e": "wear", "y": "wear"}
        exact = works_of_3000([(9, "y", 9)], faults={"y": "wear"})
        self.assertEqual(late(exact, box, ALL_OF_3000, "wear"), 0)
        self.assertIs(told(exact, box, ALL_OF_3000, "wear", 0), True)
        self.assertIsNone(untold(exact, box, ALL_OF_3000, "wear", 0))
        self.assertEqual(tell_paper(exact, box, ALL_OF_3000, "wear", 0), (triples_of_3000(), {}))
        over = works_of_3001([(9, "y", 9)], faults={"y": "wear"})
        for call in [*self.calls(over, box)[:3], self.calls(over, box)[5]]:
            self.refuses(TooMany, 3000, call, ALL_OF_3000, "wear", 0)
            self.refuses(TooMany, 3000, call, ALL_OF_3000, "wear", 1000)
        # The end is told at once where it is itself the fault: then nothing is met behind it.
        self.assertEqual(late(works_of_3001([(9, "y", 9)], faults=fault), box, ALL_OF_3000, "wear"), 0)
        paper = (triples_of_3001(), {})
        self.assertIs(is_tell_paper(over, box, ALL_OF_3000, "wear", 0, paper), True)
        self.assertIs(is_tell_paper(over, box, ALL_OF_3000, "wear", 0, (paper[0][:-1], {})), False)
        self.assertIs(is_untold(over, box, ALL_OF_3000, "wear", 0, ((), ((), ()))), False)

    def test_both_colours_count(self):
        """1500 triples, and the same ones again behind a fault that nobody sees and that leaves all as it was."""
        steps = [(0, "f", 0)]
        more = [[], [(0, "e", 20)]]
        box = Box([
            Sensor("left", 0, {"x": "turn", "e": "end"}, 1),
            Sensor("right", 1, {"x": "turn", "y": "twist", "e": "end"}, 1),
        ])
        for extra in more:
            works = Works([
                Hand(0, [*ring(3, "x"), *steps, *extra]), Hand(0, [*ring(2, "y"), *extra]),
                Hand(0, [*ring(5, "z"), *extra]),
            ], faults={"f": "wear"})
            if extra:
                self.refuses(TooMany, 3000, late, works, box, ["left", "right"], "wear")
                self.refuses(TooMany, 3000, told, works, box, ["left", "right"], "wear", 0)
                self.refuses(TooMany, 3000, untold, works, box, ["left", "right"], "wear", 0)
                self.refuses(TooMany, 3000, tell_paper, works, box, ["left", "right"], "wear", 0)
            else:
                self.assertIsNone(late(works, box, ["left", "right"], "wear"))
                found = untold(works, box, ["left", "right"], "wear", 30)
                self.assertIs(is_untold(works, box, ["left", "right"], "wear", 30, found), True)
            run = (("f", (0, 0, 0)), ("z", (0, 0, 1)))
            self.assertIs(is_untold(works, box, ["left", "right"], "wear", 1, (run, ((), ()))), True)

    def test_also_where_the_answer_could_be_found_earlier(self):
        works = works_of_3001([(0, "f", 0)], faults={"f": "wear"})
        self.refuses(TooMany, 3000, untold, works, box_of_3000(), ALL_OF_3000, "wear", 0)
        works = works_of_3001([(0, "f", 0)], faults={"f": "wear", "x": "none"})
        self.refuses(TooMany, 3000, late, works, box_of_3000(), ALL_OF_3000, "wear")

    def test_only_the_triples_of_the_set_count(self):
        works = works_of_3001([(0, "f", 0)], faults={"f": "wear"})
        for chosen in [["left"], ["right", "lefty", "righty"], []]:
            self.assertIsNone(late(works, box_of_3000(), chosen, "wear"))


class Same(unittest.TestCase):
    """[3] what is passed stays, what is returned is new, equal arguments give equal values."""

    def test_equal_arguments(self):
        chance = random.Random(307)
        for _ in range(60):
            parts = some_parts(chance)
            works = Works(**parts)
            box = some_box(chance, works, 6)
            chosen = chance.choice([some_set(chance, box), box.names()])
            other = (turned(chance, parts), turned_box(chance, box), turned_set(chance, chosen))
            for fault in works.faults:
                self.assertEqual(late(works, box, chosen, fault), late(*other, fault))
                for within in (0, 2):
                    for call in (untold, tell_paper, told):
                        one, two = call(works, box, chosen, fault, within), call(*other, fault, within)
                        self.assertEqual(one, two)
                        if call is tell_paper and one is not None:
                            self.assertEqual(list(one[1].items()), list(two[1].items()))

    def test_nothing_passed_is_changed(self):
        chosen = ["eye", "ear"]
        paper = tell_paper(slow(), SLOW_BOX, chosen, "wear", 3)
        before = copy.deepcopy((chosen, paper))
        self.assertIs(is_tell_paper(slow(), SLOW_BOX, chosen, "wear", 3, paper), True)
        self.assertEqual((chosen, paper), before)
        paper[0].clear()
        paper[1].clear()
        self.assertEqual(tell_paper(slow(), SLOW_BOX, chosen, "wear", 3), before[1])


if __name__ == "__main__":
    unittest.main()
