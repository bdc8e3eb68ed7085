import copy
import random
import unittest

from tests import workings
from tests.chance import some_box, some_parts, some_set, some_works, turned, turned_box, turned_set
from tests.nets import ALL_OF_3000, box_of_3000, triples_of_3000, triples_of_3001, works_of_3000, works_of_3001
from tests.test_works_told import plant
from tests.things import Refusing, is_plain_integer, strange_things
from tests.workings import can_hold, end, has, sights_of
from watchedworks.boxes import Box
from watchedworks.errors import BadSet, TooMany
from watchedworks.hands import Hand
from watchedworks.instruments import Lock, Sensor
from watchedworks.keeping import conflict, is_conflict, is_keep_paper, keep_paper, keeps
from watchedworks.works import Works


def example_box():
    return Box([
        Sensor("ear", 0, {"start": "hum", "slip": "hum"}, 2),
        Sensor("eye", 0, {"slip": "smoke"}, 3),
        Lock("valve", 0, ["burst"], 1),
    ])


def crane():
    """A works that only a post that sees enough can keep: behind "low" the drop is barred, behind "high" it is not."""
    hand = Hand(0, [(0, "high", 1), (0, "low", 2), (1, "drop", 0), (2, "drop", 9), (2, "back", 0), (1, "back", 0)])
    return Works([hand], bars=[{0: 9}])


def crane_box():
    return Box([
        Sensor("eye", 0, {"high": "up", "low": "down"}, 1), Sensor("ear", 0, {"high": "hum", "low": "hum"}, 1),
        Sensor("far", 1, {"high": "up", "low": "down"}, 1), Lock("hook", 0, ["drop"], 1), Lock("rope", 1, ["drop"], 1),
        Lock("brake", 1, ["back"], 1),
    ])


def counting(box, chosen):
    return [has(box, chosen, post, Lock) for post in (0, 1)]


def barred_words(works, standing):
    return sorted({word for word, behind in works.moves(standing) if works.is_barred(behind)})


def leads_on(works, standing, word):
    return word in [told for told, _ in works.kept_moves(standing)]


def keeps_by_estimates(works, box, chosen):
    """Whether a set keeps the works, worked out with all that each post holds possible behind each kept run."""
    start = workings.start_of(works)
    first = (start, *(workings.unseen(works, box, chosen, post, {start}) for post in (0, 1)))
    met, waiting = {first}, [first]
    while waiting:
        standing, *estimates = waiting.pop()
        for word in barred_words(works, standing):
            holders = [post for post in (0, 1) if can_hold(box, chosen, post, word)]
            if all(any(leads_on(works, one, word) for one in estimates[post]) for post in holders):
                return False
        for word, behind in works.kept_moves(standing):
            estimates_behind = [
                workings.behind_word(works, box, chosen, post, estimates[post], word) for post in (0, 1)
            ]
            place = (behind, *estimates_behind)
            if place not in met:
                met.add(place)
                waiting.append(place)
    return True


def has_short_conflict(works, box, chosen, most):
    """Whether there is a conflict of runs of at most so many moves."""
    runs = workings.runs_up_to(works, most, works.kept_moves)
    for word in works.words:
        holders = [post for post in (0, 1) if can_hold(box, chosen, post, word)]
        shown = [
            {sights_of(box, chosen, post, run) for run in runs if leads_on(works, end(works, run), word)}
            for post in holders
        ]
        for run in runs:
            if word in barred_words(works, end(works, run)):
                if all(sights_of(box, chosen, post, run) in some for post, some in zip(holders, shown)):
                    return True
    return False


def is_kept(works, run):
    standing = workings.start_of(works)
    for move in run:
        if move not in works.kept_moves(standing):
            return False
        standing = move[1]
    return True


def is_right_conflict(works, box, chosen, thing):
    """Of what has the form of a conflict: whether it is one."""
    word, run, others = thing
    if not is_kept(works, run) or word not in barred_words(works, end(works, run)):
        return False
    for post in (0, 1):
        if not can_hold(box, chosen, post, word):
            if others[post] is not None:
                return False
        elif others[post] is None or not is_kept(works, others[post]):
            return False
        elif not leads_on(works, end(works, others[post]), word):
            return False
        elif sights_of(box, chosen, post, run) != sights_of(box, chosen, post, others[post]):
            return False
    return True


def is_right_paper(works, box, chosen, paper):
    """Of a list of triples of kept standings, with None where it has to be: whether it is a keep paper."""
    counts = counting(box, chosen)
    start = workings.start_of(works)
    if (start, *(start if one else None for one in counts)) not in paper:
        return False
    for triple in paper:
        for behind, _, _ in workings.steps_behind(works, box, chosen, counts, (), (triple, False)):
            if behind not in paper:
                return False
        for word in barred_words(works, triple[0]):
            if not any(
                can_hold(box, chosen, post, word) and not leads_on(works, triple[post + 1], word) for post in (0, 1)
            ):
                return False
    return True


def cases(seed, number):
    chance = random.Random(seed)
    for _ in range(number):
        works = some_works(chance)
        while chance.random() < 0.9 and not any(works.is_barred(standing) for standing in works.standings()):
            works = some_works(chance)
        box = some_box(chance, works, 6)
        chosen = chance.choice([some_set(chance, box), box.names()])
        yield chance, works, box, chosen


class Example(Refusing):
    """What the example says of conflicts and of keeping, and more by hand."""

    def test_without_the_lock_burst_is_a_conflict(self):
        run = (("start", (1,)), ("slip", (2,)))
        for chosen in [[], ["ear"], ["eye"], ("eye", "ear")]:
            self.assertIs(keeps(plant(), example_box(), chosen), False)
            self.assertIsNone(keep_paper(plant(), example_box(), chosen))
            self.assertEqual(conflict(plant(), example_box(), chosen)[0], "burst")
            self.assertIs(is_conflict(plant(), example_box(), chosen, ("burst", run, (None, None))), True)
            self.assertIs(is_conflict(plant(), example_box(), chosen, ("burst", run, (run, None))), False)
            self.assertIs(is_conflict(plant(), example_box(), chosen, ("burst", run[:1], (None, None))), False)

    def test_with_the_lock_any_set_keeps_the_plant(self):
        for chosen in [["valve"], ["valve", "ear"], ["eye", "valve"], ["valve", "eye", "ear"]]:
            self.assertIs(keeps(plant(), example_box(), chosen), True)
            self.assertIsNone(conflict(plant(), example_box(), chosen))
            self.assertIs(type(keep_paper(plant(), example_box(), chosen)), list)

    def test_a_paper_by_hand(self):
        clean = [((0,), (0,), None), ((1,), (1,), None)]
        self.assertEqual(
            keep_paper(plant(), Box([
                Sensor("all", 0, {word: word for word in plant().words}, 1), Lock("valve", 0, ["burst"], 1),
            ]), ["all", "valve"]), [*clean, ((2,), (2,), None)],
        )
        self.assertEqual(keep_paper(plant(), example_box(), ["valve"]), [
            ((run,), (other,), None) for run in range(3) for other in range(3)
        ])

    def test_a_works_without_bars_needs_nothing(self):
        works = Works(plant().hands)
        self.assertIs(keeps(works, example_box(), []), True)
        self.assertEqual(keep_paper(works, example_box(), []), [((state,), None, None) for state in range(4)])

    def test_what_a_post_has_to_see(self):
        expected = {
            ("hook",): False, ("eye", "hook"): True, ("ear", "hook"): False, ("far", "hook"): False,
            ("far", "rope"): True, ("eye", "rope"): False, ("eye", "far"): False, ("hook", "rope"): False,
            ("brake", "far"): False, ("brake", "eye", "hook"): True, ("ear", "far", "hook", "rope"): True,
        }
        for chosen, kept in expected.items():
            self.assertIs(keeps(crane(), crane_box(), chosen), kept, chosen)
            self.assertIs(conflict(crane(), crane_box(), chosen) is None, kept)
            self.assertIs(keep_paper(crane(), crane_box(), chosen) is None, not kept)

    def test_a_conflict_of_two_posts(self):
        low, high = (("low", (2,)),), (("high", (1,)),)
        chosen = ["hook", "rope", "ear"]
        word, run, others = conflict(crane(), crane_box(), chosen)
        self.assertEqual((word, end(crane(), run)), ("drop", (2,)))
        self.assertEqual([end(crane(), other) for other in others], [(1,), (1,)])
        self.assertIs(is_conflict(crane(), crane_box(), chosen, ("drop", low, (high, high))), True)
        for others in [(high, None), (None, high), (None, None), (low, high), (high, low), ((), high)]:
            self.assertIs(is_conflict(crane(), crane_box(), chosen, ("drop", low, others)), False)
        longer = (*high, ("back", (0,)), *high)
        self.assertIs(is_conflict(crane(), crane_box(), chosen, ("drop", low, (high, longer))), True)
        self.assertIs(is_conflict(crane(), crane_box(), chosen, ("drop", low, (longer, high))), False)

    def test_a_word_that_leads_to_a_bar_and_on_is_never_held(self):
        works = Works([Hand(0, [(0, "a", 1), (0, "a", 2)])], bars=[{0: 2}])
        box = Box([Sensor("eye", 0, {"a": "s"}, 1), Lock("valve", 0, ["a"], 1), Lock("far", 1, ["a"], 1)])
        for chosen in [[], ["valve"], ["eye", "valve"], ["far", "eye", "valve"]]:
            self.assertEqual(conflict(works, box, chosen)[:2], ("a", ()))

    def test_a_post_whose_lock_does_not_have_the_word_counts(self):
        paper = keep_paper(crane(), crane_box(), ["eye", "hook", "brake"])
        self.assertEqual({triple[2] for triple in paper}, {(0,), (1,), (2,)})
        self.assertIs(is_keep_paper(crane(), crane_box(), ["eye", "hook"], paper), False)
        others = conflict(crane(), crane_box(), ["ear", "hook", "brake"])[2]
        self.assertIsNotNone(others[0])
        self.assertIsNone(others[1])


class Compared(unittest.TestCase):
    """[21] to [26] against the tests' own workings."""

    def test_whether_sets_keep_works(self):
        kept = 0
        for _, works, box, chosen in cases(24, 300):
            expected = keeps_by_estimates(works, box, chosen)
            kept += expected
            self.assertIs(keeps(works, box, chosen), expected)
            found = conflict(works, box, chosen)
            self.assertIs(found is None, expected)
            if found is not None:
                self.assertTrue(is_right_conflict(works, box, chosen, found))
                self.assertIs(is_conflict(works, box, chosen, found), True)
        self.assertTrue(60 < kept < 270)

    def test_with_all_short_runs(self):
        with_short_conflict = 0
        for _, works, box, chosen in cases(25, 80):
            if has_short_conflict(works, box, chosen, 3):
                with_short_conflict += 1
                self.assertIs(keeps(works, box, chosen), False)
            if keeps(works, box, chosen):
                self.assertFalse(has_short_conflict(works, box, chosen, 4))
        self.assertGreater(with_short_conflict, 15)

    def test_papers_have_just_the_met_triples(self):
        greatest = 0
        for _, works, box, chosen in cases(26, 200):
            paper = keep_paper(works, box, chosen)
            if not keeps_by_estimates(works, box, chosen):
                self.assertIsNone(paper)
                continue
            met = workings.met_triples(works, box, chosen, counting(box, chosen))
            self.assertEqual(paper, sorted((triple for triple, _ in met), key=workings.none_first))
            self.assertIs(is_keep_paper(works, box, chosen, paper), True)
            self.assertTrue(is_right_paper(works, box, chosen, paper))
            greatest = max(greatest, len(paper))
        self.assertGreater(greatest, 100)

    def test_more_instruments_keep_more(self):
        more = 0
        for chance, works, box, chosen in cases(27, 150):
            few = [name for name in chosen if chance.random() < 0.7]
            if keeps(works, box, few):
                self.assertIs(keeps(works, box, chosen), True)
                more += len(few) < len(chosen)
        self.assertGreater(more, 20)

    def test_changed_conflicts(self):
        judged = {True: 0, False: 0}
        for chance, works, box, chosen in cases(28, 60):
            found = conflict(works, box, chosen)
            if found is None:
                continue
            runs = workings.runs_up_to(works, 2, works.moves)
            for changed in self.changed_conflicts(chance, works, found, runs):
                expected = is_right_conflict(works, box, chosen, changed)
                judged[expected] += 1
                self.assertIs(is_conflict(works, box, chosen, changed), expected)
        self.assertGreater(judged[True], 50)
        self.assertGreater(judged[False], 500)

    def changed_conflicts(self, chance, works, found, runs):
        word, run, (first, second) = found
        yield (word, run, (second, first))
        yield (word, run, (None, None))
        for other in [*works.words, "other", "", "Burst"]:
            yield (other, run, (first, second))
        for changed in [run[:-1], run[1:], run + run[-1:], *chance.sample(runs, min(len(runs), 8))]:
            yield (word, changed, (first, second))
            yield (word, run, (changed, second))
            yield (word, run, (first, changed))
            yield (word, run, (changed, changed))
        for move in works.moves(end(works, run)):
            yield (word, run + (move,), (first, second))
            if first is not None:
                yield (word, run + (move,), (first + (move,), second))
        yield (word, run, (run, run))

    def test_changed_papers(self):
        judged = {True: 0, False: 0}
        for chance, works, box, chosen in cases(29, 150):
            paper = keep_paper(works, box, chosen)
            if paper is None or len(paper) > 60:
                continue
            for changed in self.changed_papers(chance, works, box, chosen, paper):
                expected = is_right_paper(works, box, chosen, changed)
                judged[expected] += 1
                self.assertIs(is_keep_paper(works, box, chosen, changed), expected)
        self.assertGreater(judged[True], 100)
        self.assertGreater(judged[False], 300)

    def changed_papers(self, chance, works, box, chosen, paper):
        yield chance.sample(paper, len(paper))
        yield paper + paper[:2]
        yield []
        for at in chance.sample(range(len(paper)), min(len(paper), 4)):
            yield paper[:at] + paper[at + 1:]
        counts = counting(box, chosen)
        for _ in range(4):
            triple = tuple(
                chance.choice(works.kept()) if one else None for one in [True, *counts]
            )
            yield paper + [triple]
            yield [triple if one == paper[-1] else one for one in paper]
        every = [(triple, False) for triple in paper]
        for standing in works.kept():
            every.append(((standing, *(standing if one else None for one in counts)), False))
        while True:
            more = {
                (behind, False) for place in every
                for behind, _, _ in workings.steps_behind(works, box, chosen, counts, (), place)
            } - set(every)
            if not more:
                break
            every += sorted(more, key=lambda place: workings.none_first(place[0]))
        yield [triple for triple, _ in every]

    def test_papers_with_wrong_triples(self):
        for chance, works, box, chosen in cases(30, 120):
            paper = keep_paper(works, box, chosen)
            if paper is None:
                continue
            standing, *others = paper[-1]
            wrong = [
                (*paper[-1], None), paper[-1][:2], list(paper[-1]), None, standing,
                (standing, *(None if one else standing for one in others)),
            ]
            for at in range(3):
                for one in [None, standing, list(standing), (99,) * len(standing), standing + (0,), standing[1:],
                            tuple(map(float, standing)), tuple(map(str, standing)), (), False, 0, "x"]:
                    if (one is None) != (paper[-1][at] is None) or one not in [None, standing]:
                        wrong.append((*paper[-1][:at], one, *paper[-1][at + 1:]))
            for triple in wrong:
                self.assertIs(is_keep_paper(works, box, chosen, paper + [triple]), False)
            self.assertIs(is_keep_paper(works, box, chosen, tuple(paper)), False)
            self.assertIs(is_keep_paper(works, box, chosen, dict.fromkeys(paper)), False)
            barred = [one for one in works.standings() if works.is_barred(one)]
            for one in barred:
                self.assertIs(is_keep_paper(works, box, chosen, paper + [(one, *others)]), False)

    def test_flags_are_no_states(self):
        box = example_box()
        paper = keep_paper(plant(), box, ["valve"])
        for triple in [((True,), (0,), None), ((0,), (False,), None), ((0.0,), (0,), None), ((0,), (0,), False)]:
            self.assertIs(is_keep_paper(plant(), box, ["valve"], paper + [triple]), False)
        run = (("start", (1,)), ("slip", (2,)))
        for changed in [(("start", (True,)), run[1]), (("start", (1.0,)), run[1])]:
            self.assertIs(is_conflict(plant(), box, [], ("burst", changed, (None, None))), False)
        for others in [(False, None), (None, 0), ((), None), (None, ()), [None, None], (None,), (None,) * 3, None]:
            self.assertIs(is_conflict(plant(), box, [], ("burst", run, others)), False)

    def test_runs_of_any_length(self):
        box = Box([Sensor("ear", 0, {"high": "hum", "low": "hum"}, 1), Lock("hook", 0, ["drop"], 1)])
        round_ = (("high", (1,)), ("back", (0,)))
        run, other = round_ * 3000 + (("low", (2,)),), round_ * 3000 + (("high", (1,)),)
        self.assertIs(is_conflict(crane(), box, ["ear", "hook"], ("drop", run, (other, None))), True)
        self.assertIs(is_conflict(crane(), box, ["ear", "hook"], ("drop", run, (round_ + other, None))), False)
        self.assertIs(is_conflict(crane(), box, ["hook"], ("drop", run, (round_ + other, None))), True)


class Judges(Refusing):
    """[5], [25], [26] the judges and things of any kind."""

    def test_strange_things(self):
        run = (("start", (1,)), ("slip", (2,)))
        paper = keep_paper(plant(), example_box(), ["valve"])
        for thing in strange_things():
            for chosen in [[], ["valve", "ear"]]:
                for wrong in [
                    thing, (thing,) * 3, ("burst", thing, (None, None)), (thing, run, (None, None)),
                    ["burst", run, thing], ("burst", (run[0], thing), (None, None)), (run, thing, "burst"),
                    ("burst", run, (thing, thing, None)), ("burst", run, (thing, ())), ("burst", run, [thing, None]),
                ]:
                    self.assertIs(is_conflict(plant(), example_box(), chosen, wrong), False)
            if thing is not None:
                self.assertIs(is_conflict(plant(), example_box(), [], ("burst", run, (None, thing))), False)
                self.assertIs(is_keep_paper(plant(), example_box(), ["valve"], paper + [((0,), (0,), thing)]), False)
            for wrong in [thing, [thing], paper + [thing], [(thing,) * 3], (paper, thing)]:
                self.assertIs(is_keep_paper(plant(), example_box(), ["valve"], wrong), False)
            is_standing = thing == (0,) and is_plain_integer(thing[0])
            is_state = is_plain_integer(thing) and thing in (0, 1, 2)
            for triple, expected in [
                (((0,), thing, None), is_standing), ((thing, (0,), None), is_standing),
                (((thing,), (0,), None), is_state), (((0,), (thing,), None), is_state),
            ]:
                self.assertIs(is_keep_paper(plant(), example_box(), ["valve"], paper + [triple]), expected)

    def test_no_thing_is_a_conflict_of_a_set_that_keeps(self):
        run = (("start", (1,)), ("slip", (2,)))
        for other in [None, run, ()]:
            self.assertIs(is_conflict(plant(), example_box(), ["valve"], ("burst", run, (other, None))), False)

    def test_a_paper_of_another_set(self):
        for chosen in [[], ["ear"], ["valve", "eye"], ["valve"]]:
            paper = keep_paper(plant(), example_box(), ["valve"])
            self.assertIs(is_keep_paper(plant(), example_box(), chosen, paper), "valve" in chosen)


class Refused(Refusing):
    """[17], [23], [25] BadSet, and TooMany behind it."""

    def calls(self, works, box):
        return [
            lambda chosen: keeps(works, box, chosen), lambda chosen: conflict(works, box, chosen),
            lambda chosen: keep_paper(works, box, chosen),
            lambda chosen: is_conflict(works, box, chosen, None), lambda chosen: is_keep_paper(works, box, chosen, []),
        ]

    def test_sets(self):
        for works, box in [(plant(), example_box()), (works_of_3001(), box_of_3000())]:
            for call in self.calls(works, box):
                for thing in strange_things():
                    if not isinstance(thing, (list, tuple)):
                        self.refuses(BadSet, thing, call, thing)
                    self.refuses(BadSet, thing, call, [thing])
                    self.refuses(BadSet, thing, call, (*box.names(), thing, "x"))
                name = box.names()[0]
                self.refuses(BadSet, name, call, [name, name])

    def test_3000_triples_but_not_more(self):
        box = box_of_3000()
        self.assertIs(keeps(works_of_3000(), box, ALL_OF_3000), True)
        self.assertIsNone(conflict(works_of_3000(), box, ALL_OF_3000))
        self.assertEqual(keep_paper(works_of_3000(), box, ALL_OF_3000), triples_of_3000())
        for call in self.calls(works_of_3001(), box)[:3]:
            self.refuses(TooMany, 3000, call, ALL_OF_3000)
            self.refuses(TooMany, 3000, call, tuple(ALL_OF_3000[::-1]))

    def test_only_the_triples_of_the_set_count(self):
        for chosen in [[], ["lefty"], ["left", "right"], ["left", "lefty", "right"]]:
            self.assertIs(keeps(works_of_3001(), box_of_3000(), chosen), True)

    def test_one_post(self):
        box = Box([Lock("lock", 1, ["other"], 1)])
        for first, second, many in [(6, 9, 54 * 54), (5, 11, None), (6, 10, None)]:
            works = Works([Hand(0, [(k, "a", (k + 1) % first) for k in range(first)]),
                           Hand(0, [(k, "b", (k + 1) % second) for k in range(second)])])
            if many is None:
                self.refuses(TooMany, 3000, keeps, works, box, ["lock"])
            else:
                self.assertEqual(len(keep_paper(works, box, ["lock"])), many)

    def test_also_where_a_conflict_is_met_at_once(self):
        steps = [(0, "q", 30)]
        box = box_of_3000()
        exact, over = works_of_3000((), steps, bars=[{1: 30}]), works_of_3001((), steps, bars=[{1: 30}])
        self.assertEqual(conflict(exact, box, ALL_OF_3000), ("q", (), (None, None)))
        self.assertIs(keeps(exact, box, ALL_OF_3000), False)
        self.assertIsNone(keep_paper(exact, box, ALL_OF_3000))
        for call in self.calls(over, box)[:3]:
            self.refuses(TooMany, 3000, call, ALL_OF_3000)
        for works in [exact, over]:
            self.assertIs(is_conflict(works, box, ALL_OF_3000, ("q", (), (None, None))), True)
            self.assertIs(is_keep_paper(works, box, ALL_OF_3000, triples_of_3000()), False)

    def test_the_judges_take_more(self):
        works, box, paper = works_of_3001(), box_of_3000(), triples_of_3001()
        self.assertIs(is_keep_paper(works, box, ALL_OF_3000, paper), True)
        self.assertIs(is_keep_paper(works, box, ALL_OF_3000, paper[::-1]), True)
        self.assertIs(is_keep_paper(works, box, ALL_OF_3000, paper[:-1]), False)
        self.assertIs(is_keep_paper(works, box, ALL_OF_3000, paper[1:]), False)
        self.assertIs(is_conflict(works, box, ALL_OF_3000, ("x", (), (None, None))), False)


class Same(unittest.TestCase):
    """[3] what is passed stays, what is returned is new, equal arguments give equal values."""

    def test_equal_arguments(self):
        chance = random.Random(31)
        for _ in range(60):
            parts = some_parts(chance)
            works = Works(**parts)
            box = some_box(chance, works, 6)
            chosen = chance.choice([some_set(chance, box), box.names()])
            for call in [keeps, conflict, keep_paper]:
                self.assertEqual(
                    call(works, box, chosen),
                    call(turned(chance, parts), turned_box(chance, box), turned_set(chance, chosen)),
                )

    def test_equal_works_and_sets_with_conflicts(self):
        hand = crane().hands[0]
        turned = Works([Hand(0, hand.steps[::-1])], bars=({0: 9}, {0: 9}))
        box = Box([crane_box()[name] for name in reversed(crane_box().names())])
        for chosen in [["hook", "rope", "ear"], ["hook"], ["rope", "brake"], []]:
            self.assertEqual(
                conflict(crane(), crane_box(), chosen), conflict(turned, box, tuple(reversed(chosen))),
            )

    def test_nothing_passed_is_changed(self):
        works, box, chosen = crane(), crane_box(), ["rope", "hook", "ear"]
        thing = conflict(works, box, chosen)
        paper = keep_paper(works, box, ["hook", "eye"])
        before = copy.deepcopy((works, box, chosen, paper))
        is_conflict(works, box, chosen, thing)
        is_keep_paper(works, box, ["hook", "eye"], paper)
        self.assertEqual((works, box, chosen, paper), before)

    def test_papers_are_new(self):
        paper = keep_paper(crane(), crane_box(), ["hook", "eye"])
        paper.clear()
        self.assertNotEqual(keep_paper(crane(), crane_box(), ["hook", "eye"]), [])


if __name__ == "__main__":
    unittest.main()
