import copy
import itertools
import random
import unittest

from tests import workings
from tests.chance import some_whole_parts, turned
from tests.nets import ring
from tests.test_keeping import is_kept
from tests.test_works_told import plant
from tests.things import Refusing, is_plain_integer, raised, strange_things
from watchedworks.errors import BadWords, TooMany
from watchedworks.hands import Hand
from watchedworks.surely import escape, is_escape, is_sure_paper, sure_paper, surely
from watchedworks.works import Works


def questions(seed, number):
    chance = random.Random(seed)
    for _ in range(number):
        parts = some_whole_parts(chance)
        if chance.random() < 0.6:
            parts["diligent"] = list(range(len(parts["hands"])))
        works = Works(**parts)
        words = [*works.words, "other"]
        seen = chance.sample(works.words, min(len(works.words), chance.choice([0, 0, 1, 1, 2])))
        if chance.random() < 0.1:
            seen.append("other")
        wanted = chance.sample(words, min(len(words), chance.choice([0, 1, 1, 2, 2, 3])))
        yield chance, works, seen, wanted


def flags_behind(words, flags, word):
    return tuple(flag or word == told for flag, told in zip(flags, words))


def leading_on(works, standing, wanted):
    return [move for move in works.kept_moves(standing) if move[0] not in wanted]


def marked_by_hand(works, seen, wanted):
    words = sorted(set(seen))
    first = (workings.start_of(works), (False,) * len(words))
    met, waiting = {first}, [first]
    while waiting:
        standing, flags = waiting.pop()
        for word, behind in leading_on(works, standing, wanted):
            marked = (behind, flags_behind(words, flags, word))
            if marked not in met:
                met.add(marked)
                waiting.append(marked)
    return met


def is_able(works, hand, standing):
    return any(word in works.hands[hand].words for word, _ in works.kept_moves(standing))


def ends_fairly(works, standing):
    return not any(is_able(works, hand, standing) for hand in works.diligent)


def is_fair_among(works, moves):
    """Whether a loop of just these moves, each a tuple of a standing, a word and a standing, is fair."""
    return all(
        any(word in works.hands[hand].words or not is_able(works, hand, at) for at, word, _ in moves)
        for hand in works.diligent
    )


def is_one_loop(standings, moves):
    """Whether one can go by these moves from each of the standings to each other one, by one move at least."""
    for standing in standings:
        found, waiting = set(), [standing]
        while waiting:
            at = waiting.pop()
            for begin, _, behind in moves:
                if begin == at and behind not in found:
                    found.add(behind)
                    waiting.append(behind)
        if found != set(standings):
            return False
    return True


def holds_by_hand(works, seen, wanted):
    """By all sets of standings that a loop could go through, behind all seen words."""
    standings = sorted(standing for standing, flags in marked_by_hand(works, seen, wanted) if all(flags))
    if any(ends_fairly(works, standing) for standing in standings):
        return False
    for many in range(1, len(standings) + 1):
        for some in itertools.combinations(standings, many):
            moves = [(at, word, to) for at in some for word, to in leading_on(works, at, wanted) if to in some]
            if is_one_loop(some, moves) and is_fair_among(works, moves):
                return False
    return True


def is_right_escape(works, seen, wanted, thing):
    """Of a pair of tuples of moves: whether it is an escape."""
    stem, loop = thing
    if not is_kept(works, stem + loop) or {word for word, _ in stem + loop} & set(wanted):
        return False
    if set(seen) - {word for word, _ in stem}:
        return False
    if not loop:
        return ends_fairly(works, workings.end(works, stem))
    begins = [workings.end(works, stem), *[behind for _, behind in loop[:-1]]]
    return loop[-1][1] == begins[0] and is_fair_among(works, [(at, *move) for at, move in zip(begins, loop)])


def is_right_paper(works, seen, wanted, thing):
    """Of a list of marked standings and a dict from these to pairs of integers: whether it is a sure paper."""
    ahead, ranks = thing
    words = sorted(set(seen))
    if any(all(flags) for _, flags in ahead) or not all(all(flags) for _, flags in ranks):
        return False
    first = (workings.start_of(works), (False,) * len(words))
    if first not in ahead and first not in ranks:
        return False
    for standing, flags in ahead:
        for word, behind in leading_on(works, standing, wanted):
            marked = (behind, flags_behind(words, flags, word))
            if marked not in ahead and marked not in ranks:
                return False
    for (standing, flags), (number, hand) in ranks.items():
        if number < 0 or hand not in works.diligent or not is_able(works, hand, standing):
            return False
        for word, behind in leading_on(works, standing, wanted):
            other = ranks.get((behind, flags))
            if other is None or not (
                other[0] < number or other == (number, hand) and word not in works.hands[hand].words
            ):
                return False
    return True


def lift(diligent):
    """Two hands: a door that opens and shuts, and a cage that rises and sinks as long as the door is shut."""
    door = Hand(0, [(0, "ajar", 1), (1, "shut", 0), (0, "rise", 0), (0, "sink", 0)])
    cage = Hand(0, [(0, "rise", 1), (1, "sink", 0), (1, "call", 1)])
    return Works([door, cage], diligent=diligent)


def works_of_1000(more=()):
    """Eight flags of one hand, 25 marked states of another one, and a wheel with five states."""
    free = [(0, "a", 0), (0, "b", 0), (0, "c", 0)]
    chain = [(0, "x", 1), (1, "d", 1), (1, "e", 1), (1, "x", 2), (2, "x", 3), (3, "g", 3), (3, "h", 3)]
    return Works([Hand(0, free), Hand(0, [*chain, *more]), Hand(0, ring(5, "z"))])


SEEN_OF_1000 = ["a", "b", "c", "d", "e", "g", "h"]


class Example(unittest.TestCase):
    """[42] to [46] what the example says of `surely`, and more by hand."""

    def test_behind_a_slip_the_pump_stops(self):
        self.assertIs(surely(plant(), seen=["slip"], wanted=["stop"]), True)
        self.assertIsNone(escape(plant(), seen=["slip"], wanted=["stop"]))
        self.assertEqual(sure_paper(plant(), seen=["slip"], wanted=["stop"])[0], [((0,), (False,)), ((1,), (False,))])
        self.assertEqual(list(sure_paper(plant(), seen=["slip"], wanted=["stop"])[1]), [((2,), (True,))])

    def test_the_diligent_hand_matters(self):
        lazy = Works(plant().hands, bars=[{0: 3}])
        self.assertIs(surely(lazy, seen=["slip"], wanted=["stop"]), False)
        self.assertEqual(escape(lazy, seen=["slip"], wanted=["stop"]), ((("start", (1,)), ("slip", (2,))), ()))
        self.assertIsNone(sure_paper(lazy, seen=["slip"], wanted=["stop"]))
        self.assertIs(surely(plant(), wanted=["start"]), True)
        self.assertIs(surely(lazy, wanted=["start"]), False)
        self.assertEqual(escape(lazy, wanted=["start"]), ((), ()))

    def test_it_makes_no_difference_which_word_is_done_first(self):
        self.assertIs(surely(plant(), seen=["slip"], wanted=["start"]), True)
        self.assertIs(surely(plant(), seen=["stop"], wanted=["start"]), True)
        self.assertIs(surely(plant(), seen=["start"], wanted=["slip"]), False)

    def test_kept_works_are_asked(self):
        """[11] without its bar the pump can burst, and then it ends."""
        free = Works(plant().hands, diligent=[0])
        self.assertIs(surely(free, seen=["slip"], wanted=["stop"]), False)
        stem, loop = escape(free, seen=["slip"], wanted=["stop"])
        self.assertEqual((stem[-1], loop), (("burst", (3,)), ()))

    def test_empty_rows(self):
        self.assertIs(surely(plant(), wanted=[]), False)
        self.assertIs(surely(plant(), seen=(), wanted=()), False)
        self.assertIs(surely(plant(), seen=["burst"], wanted=[]), True)
        self.assertIs(surely(plant(), seen=["none"], wanted=()), True)
        self.assertEqual(sure_paper(plant(), seen=["none"], wanted=[]), (
            [((0,), (False,)), ((1,), (False,)), ((2,), (False,))], {},
        ))
        self.assertIs(surely(plant(), wanted=["none"]), False)
        every = Works([Hand(0, [(0, "a", 1)])])
        self.assertIs(surely(every, wanted=["a"]), False)
        self.assertIs(surely(Works([Hand(0, [(0, "a", 1)])], diligent=[0]), wanted=["a"]), True)

    def test_seen_and_wanted_words(self):
        for works in [plant(), Works(plant().hands)]:
            self.assertIs(surely(works, seen=["slip"], wanted=["slip"]), True)
            self.assertIs(surely(works, seen=["slip", "stop"], wanted=["stop", "burst"]), True)
            self.assertEqual(sure_paper(works, seen=["slip"], wanted=["slip"])[1], {})

    def test_a_hand_that_is_not_always_able_waits(self):
        """The cage is never sure to rise: whenever the door is opened it is not able."""
        self.assertIs(surely(lift([1]), wanted=["rise"]), False)
        stem, loop = escape(lift([1]), wanted=["rise"])
        self.assertIs(is_escape(lift([1]), (stem, loop), wanted=["rise"]), True)
        round_ = (("ajar", (1, 0)), ("shut", (0, 0)))
        self.assertIs(is_escape(lift([1]), ((), round_), wanted=["rise"]), True)
        self.assertIs(is_escape(lift([1]), (round_ * 2, round_ * 3), wanted=["rise"]), True)
        self.assertIs(is_escape(lift([0, 1]), (round_ * 2, round_ * 3), wanted=["rise"]), True)
        self.assertIs(is_escape(lift([1]), ((), round_[:1]), wanted=["rise"]), False)
        self.assertIs(is_escape(lift([1]), (round_[:1], ()), wanted=["rise"]), True)
        self.assertIs(is_escape(lift([1]), ((), ()), wanted=["rise"]), False)

    def test_a_hand_that_is_always_able_goes_on_at_last(self):
        """Whoever only opens and shuts the door behind a rise keeps the cage from sinking, but not from the call."""
        self.assertIs(surely(lift([1]), seen=["rise"], wanted=["call", "sink"]), True)
        self.assertIs(surely(lift([0]), seen=["rise"], wanted=["call", "sink"]), False)
        self.assertIs(surely(lift([0]), seen=["rise"], wanted=["call", "sink", "ajar"]), True)
        ahead, ranks = sure_paper(lift([1]), seen=["rise"], wanted=["call", "sink"])
        self.assertEqual(ahead, [((0, 0), (False,)), ((1, 0), (False,))])
        self.assertEqual(list(ranks), [((0, 1), (True,)), ((1, 1), (True,))])
        self.assertEqual([hand for _, hand in ranks.values()], [1, 1])
        self.assertEqual(len({number for number, _ in ranks.values()}), 1)

    def test_hands_that_are_able_by_turns_may_both_wait(self):
        """Two hands wait for a third one, each of them on another side of its way."""
        mover = Hand(0, [(0, "go", 1), (1, "come", 0), (0, "left", 0), (1, "right", 1)])
        works = Works([mover, Hand(0, [(0, "left", 0)]), Hand(0, [(0, "right", 0)])], diligent=[1, 2])
        wanted = ["left", "right"]
        self.assertIs(surely(works, wanted=wanted), False)
        self.assertIsNone(sure_paper(works, wanted=wanted))
        found = escape(works, wanted=wanted)
        self.assertTrue(is_right_escape(works, [], wanted, found))
        round_ = (("go", (1, 0, 0)), ("come", (0, 0, 0)))
        self.assertIs(is_escape(works, ((), round_), wanted=wanted), True)
        for hands in [[0, 1], [0, 2], [0, 1, 2], [1], [2]]:
            self.assertIs(surely(Works(works.hands, diligent=hands), wanted=wanted), False)

    def test_a_word_of_several_hands_is_a_move_of_each(self):
        works = Works([Hand(0, [(0, "a", 0), (0, "b", 0)]), Hand(0, [(0, "a", 0), (0, "c", 0)])], diligent=[0, 1])
        self.assertIs(surely(works, wanted=["b"]), False)
        self.assertIs(is_escape(works, ((), (("a", (0, 0)),)), wanted=["b", "c"]), True)
        self.assertIs(is_escape(works, ((), (("b", (0, 0)),)), wanted=["a"]), False)
        self.assertIs(is_escape(works, ((), (("b", (0, 0)), ("c", (0, 0)))), wanted=["a"]), True)
        self.assertIs(surely(works, wanted=["a", "b"]), True)
        self.assertIs(surely(works, wanted=["a"]), False)

    def test_a_wanted_word_makes_able(self):
        """A hand that can only do what is wanted has to do it; one that is not diligent may stay."""
        works = Works([Hand(0, [(0, "a", 1)]), Hand(0, [(0, "b", 0)])], diligent=[0])
        self.assertIs(surely(works, wanted=["a"]), True)
        self.assertEqual(sure_paper(works, wanted=["a"])[1][((0, 0), ())][1], 0)
        self.assertIs(surely(Works(works.hands, diligent=[1]), wanted=["a"]), False)


class Compared(unittest.TestCase):
    """[42] to [46] against the tests' own workings."""

    def test_questions(self):
        told = {True: 0, False: 0}
        loops, busy = 0, 0
        for _, works, seen, wanted in questions(42, 900):
            if len(works.kept()) > 8:
                continue
            expected = holds_by_hand(works, seen, wanted)
            told[expected] += 1
            self.assertIs(surely(works, seen=seen, wanted=wanted), expected)
            paper, found = sure_paper(works, seen=seen, wanted=wanted), escape(works, seen=seen, wanted=wanted)
            self.assertEqual((paper is None, found is None), (not expected, expected))
            if expected:
                busy += len(paper[1]) > 1
                met = marked_by_hand(works, seen, wanted)
                self.assertEqual(paper[0], sorted(one for one in met if not all(one[1])))
                self.assertEqual(list(paper[1]), sorted(one for one in met if all(one[1])))
                self.assertTrue(is_right_paper(works, seen, wanted, paper))
                self.assertIs(is_sure_paper(works, paper, seen=seen, wanted=wanted), True)
            else:
                loops += found[1] != ()
                self.assertTrue(is_right_escape(works, seen, wanted, found))
                self.assertIs(is_escape(works, found, seen=seen, wanted=wanted), True)
        self.assertGreater(min(told.values()), 150)
        self.assertGreater(min(loops, busy), 60)

    def test_papers_and_escapes_of_greater_works(self):
        for _, works, seen, wanted in questions(43, 300):
            paper, found = sure_paper(works, seen=seen, wanted=wanted), escape(works, seen=seen, wanted=wanted)
            self.assertNotEqual(paper is None, found is None)
            if found is None:
                self.assertTrue(is_right_paper(works, seen, wanted, paper))
            else:
                self.assertTrue(is_right_escape(works, seen, wanted, found))

    def test_changed_escapes(self):
        judged = {True: 0, False: 0}
        for chance, works, seen, wanted in questions(44, 250):
            found = escape(works, seen=seen, wanted=wanted) or ((), ())
            runs = workings.runs_up_to(works, 2, works.moves)
            for changed in self.changed_escapes(chance, works, found, runs):
                expected = is_right_escape(works, seen, wanted, changed)
                judged[expected] += 1
                self.assertIs(is_escape(works, changed, seen=seen, wanted=wanted), expected)
        self.assertGreater(judged[True], 400)
        self.assertGreater(judged[False], 2000)

    def changed_escapes(self, chance, works, found, runs):
        stem, loop = found
        yield (stem, loop * 2)
        yield (stem + loop, loop)
        yield (stem, ())
        yield (stem + loop, ())
        yield (loop, stem)
        yield (stem, loop[::-1])
        yield (stem[:-1], loop)
        yield (stem[1:], loop)
        yield (stem + loop[:1], loop[1:] + loop[:1])
        yield (stem, loop[1:])
        yield (stem, loop[:-1])
        yield ((), stem + loop)
        for move in works.moves(workings.end(works, stem)):
            yield (stem + (move,), loop)
            yield (stem, loop + (move,))
            yield (stem, (move,))
        for run in chance.sample(runs, min(len(runs), 6)):
            yield (run, loop)
            yield (run, ())
            yield (stem, run)
            yield (run[:1], run[1:])

    def test_changed_papers(self):
        judged = {True: 0, False: 0}
        for chance, works, seen, wanted in questions(45, 500):
            paper = sure_paper(works, seen=seen, wanted=wanted)
            if paper is None or len(paper[0]) + len(paper[1]) > 40:
                continue
            for changed in self.changed_papers(chance, works, seen, paper):
                expected = is_right_paper(works, seen, wanted, changed)
                judged[expected] += 1
                self.assertIs(is_sure_paper(works, changed, seen=seen, wanted=wanted), expected)
        self.assertGreater(judged[True], 500)
        self.assertGreater(judged[False], 1000)

    def changed_papers(self, chance, works, seen, paper):
        ahead, ranks = paper
        yield (chance.sample(ahead, len(ahead)) + ahead[:1], dict(reversed(ranks.items())))
        yield ([], ranks)
        yield (ahead, {})
        yield ([*ahead, *list(ranks)[:1]], ranks)
        for at in chance.sample(range(len(ahead)), min(len(ahead), 2)):
            yield (ahead[:at] + ahead[at + 1:], ranks)
            yield (ahead, {**ranks, ahead[at]: (0, 0)})
        for marked in chance.sample(list(ranks), min(len(ranks), 3)):
            number, hand = ranks[marked]
            yield (ahead, {one: rank for one, rank in ranks.items() if one != marked})
            for rank in [(number + 1, hand), (number - 1, hand), (number, 1 - hand), (number, 2), (-1, hand),
                         (0, hand), (number + 100, 0), (number, -1), (number, 3)]:
                yield (ahead, {**ranks, marked: rank})
        yield (ahead, {one: (number * 2 + 7, hand) for one, (number, hand) in ranks.items()})
        yield (ahead, {one: (5, hand) for one, (_, hand) in ranks.items()})
        yield (ahead, {one: (number - 1, hand) for one, (number, hand) in ranks.items()})
        many = len(set(seen))
        for standing in chance.sample(works.kept(), 2):
            marked = (standing, tuple(chance.random() < 0.5 for _ in range(many)))
            yield ([*ahead, marked], ranks)
            yield (ahead, {**ranks, marked: (chance.randrange(4), chance.randrange(len(works.hands)))})
            done = (standing, (True,) * many)
            yield (ahead, {**ranks, done: (chance.randrange(9), chance.randrange(len(works.hands)))})
        yield (list(marked_by_hand(works, seen, ())), ranks)


class Judges(unittest.TestCase):
    """[5], [45], [46] the judges and things of any kind."""

    def test_strange_things(self):
        seen, wanted = ["slip"], ["stop"]
        ahead, ranks = sure_paper(plant(), seen=seen, wanted=wanted)
        marked, = ranks
        stem, loop = escape(plant(), seen=["start"], wanted=["slip"])
        for thing in strange_things():
            rows = [
                thing, (thing, ranks), (ahead, thing), [ahead, thing], (thing,) * 2, (thing,) * 3,
                (ahead, ranks, thing),
                ([*ahead, thing], ranks), ([*ahead, (thing, thing)], ranks), ([*ahead, ((0,), thing)], ranks),
                ([*ahead, (thing, (False,))], ranks), ([*ahead, ((thing, thing), (False,))], ranks),
                (ahead, {marked: (thing,) * 3}), (ahead, {marked: (thing,)}), (ahead, {marked: [0, thing]}),
            ]
            if thing != (0, 0):
                rows.append((ahead, {marked: thing}))
            if thing is not False:
                rows.append(([*ahead, ((0,), (thing,))], ranks))
            if not (is_plain_integer(thing) and thing >= 0):
                rows.append((ahead, {marked: (thing, 0)}))
            if not (is_plain_integer(thing) and thing == 0):
                rows += [(ahead, {marked: (0, thing)}), (ahead, {marked: (thing, thing)})]
            if self.is_key(thing):
                rows += [(ahead, {**ranks, thing: (0, 0)}), (ahead, {**ranks, (thing, (True,)): (0, 0)})]
                if thing != (True,):
                    rows.append((ahead, {**ranks, ((2,), thing): (0, 0)}))
            for wrong in rows:
                if wrong != ([*ahead, ((0,), (False,))], ranks):
                    self.assertIs(is_sure_paper(plant(), wrong, seen=seen, wanted=wanted), False)
            for wrong in [
                thing, (thing, loop), (stem, (thing,)), (thing,), (thing,) * 2, (thing,) * 3, [stem, thing],
                ((*stem, thing), loop), (stem, (*loop, thing)), (stem, (thing, *loop)), (stem, loop, thing),
            ]:
                expected = wrong == (stem, ())
                self.assertIs(is_escape(plant(), wrong, seen=["start"], wanted=["slip"]), expected)

    def is_key(self, thing):
        try:
            hash(thing)
        except TypeError:
            return False
        return True

    def test_other_kinds_of_papers(self):
        seen, wanted = ["slip"], ["stop"]
        ahead, ranks = sure_paper(plant(), seen=seen, wanted=wanted)
        marked, = ranks
        self.assertIs(is_sure_paper(plant(), (ahead, {marked: (10 ** 30, 0)}), seen=seen, wanted=wanted), True)
        for wrong in [
            [ahead, ranks], (tuple(ahead), ranks), (ahead, list(ranks.items())), (ahead,), (ahead, ranks, ranks),
            (ranks, ahead), (ahead, {marked: [0, 0]}), (ahead, {marked: (0, 0, 0)}), (ahead, {marked: (0,)}),
            (ahead, {marked: (True, 0)}), (ahead, {marked: (0, False)}), (ahead, {marked: (0.0, 0)}),
            (ahead, {marked: (0, 0.0)}), (ahead, {marked: 0}), (ahead, {((2,), (1,)): (0, 0)}),
            (ahead, {((2,), (1.0,)): (0, 0)}), (ahead, {((2.0,), (True,)): (0, 0)}), (ahead, {(2,): (0, 0)}),
            (ahead, {((2,), (True, True)): (0, 0)}), (ahead, {((2,), ()): (0, 0)}), (ahead, {((3,), (True,)): (0, 0)}),
            ([((0,), (0,)), ahead[1]], ranks), ([((False,), (False,)), ahead[1]], ranks),
            ([[(0,), (False,)], ahead[1]], ranks), ([((0,), [False]), ahead[1]], ranks),
            ([*ahead, ((3,), (False,))], ranks), ([*ahead, ((0,), (False,), None)], ranks),
            ([*ahead, ((0,), (False, False))], ranks), ([*ahead, marked], ranks), ([*ahead, ((9,), (False,))], ranks),
        ]:
            self.assertIs(is_sure_paper(plant(), wrong, seen=seen, wanted=wanted), False, wrong)
        more = ([*ahead, ((2,), (False,))], {**ranks, ((0,), (True,)): (3, 0), ((1,), (True,)): (2, 0)})
        more[1][((2,), (True,))] = (2, 0)
        self.assertIs(is_sure_paper(plant(), more, seen=seen, wanted=wanted), False)
        more[1][((2,), (True,))] = (1, 0)
        self.assertIs(is_sure_paper(plant(), more, seen=seen, wanted=wanted), True)

    def test_other_kinds_of_escapes(self):
        stem, loop = escape(plant(), seen=["start"], wanted=["slip"])
        for wrong in [
            [stem, loop], (list(stem), loop), (stem, list(loop)), (stem,), (stem, loop, ()), (stem, None), stem + loop,
            ((("start", (True,)),), loop), (stem, loop + loop[:1]), (stem, ()), (None, None), ((), ()), (stem, ((),)),
            (stem, (("start", (1.0,)), *loop[1:])), ({}, {}), (stem, ("stop", (0,))), ((), loop),
        ]:
            self.assertIs(is_escape(plant(), wrong, seen=["start"], wanted=["slip"]), False)
        self.assertIs(is_escape(plant(), (stem, loop * 3), seen=["start"], wanted=["slip"]), True)
        self.assertIs(is_escape(plant(), (stem, loop), seen=["start"], wanted=["stop"]), False)
        self.assertIs(is_escape(plant(), (stem, loop), seen=["start", "slip"], wanted=[]), False)
        self.assertIs(is_escape(plant(), (stem, loop), seen=["start", "stop"], wanted=[]), False)
        self.assertIs(is_escape(plant(), (stem + loop, loop), seen=["start", "stop"], wanted=[]), True)

    def test_long_escapes(self):
        stem, loop = escape(plant(), seen=["start"], wanted=["slip"])
        self.assertIs(is_escape(plant(), (stem + loop * 2000, loop * 1000), seen=["start"], wanted=["slip"]), True)
        self.assertIs(is_escape(plant(), (stem + loop * 2000, loop * 999 + loop[:1]), wanted=["slip"]), False)


class Refused(Refusing):
    """[43], [46] the errors in their order, and the bound."""

    def calls(self, works):
        """Functions of the words that are seen and wanted; the last two are judges."""
        return [
            lambda seen, wanted: surely(works, seen=seen, wanted=wanted),
            lambda seen, wanted: sure_paper(works, seen=seen, wanted=wanted),
            lambda seen, wanted: escape(works, seen=seen, wanted=wanted),
            lambda seen, wanted: is_sure_paper(works, None, seen=seen, wanted=wanted),
            lambda seen, wanted: is_escape(works, None, seen=seen, wanted=wanted),
        ]

    def wrong_rows(self):
        rows = [thing for thing in strange_things() if not self.is_row_of_names(thing)]
        names = [thing for thing in strange_things() if not self.is_row_of_names([thing])]
        return rows + [[thing] for thing in names] + [("stop", thing, "none") for thing in names] + ["stop", {"stop"}]

    def is_row_of_names(self, thing):
        return isinstance(thing, (list, tuple)) and all(
            isinstance(one, str) and 1 <= len(one) <= 10 and set(one) <= set("abcdefghijklmnopqrstuvwxyz")
            for one in thing
        )

    def test_seen_words_come_first(self):
        for works, right in [(plant(), ["slip"]), (works_of_1000([(0, "y", 9)]), SEEN_OF_1000)]:
            for call in self.calls(works):
                for thing in self.wrong_rows():
                    self.refuses(BadWords, thing, call, thing, right)
                    self.refuses(BadWords, thing, call, right, thing)
                self.refuses(BadWords, 1, call, 1, 2)
                self.refuses(BadWords, ["A"], call, ["A"], ["B"])
                self.refuses(BadWords, 2, call, right, 2)

    def test_rows_of_names_are_let(self):
        for row in [[], (), ["none"], ("abcdefghij", "stop"), ["stop"] * 50, [letter * 3 for letter in "abcdefghijkl"]]:
            for call in self.calls(plant()):
                self.assertIsNone(raised(call, row, ["stop"]))
                self.assertIsNone(raised(call, ["slip"], row))

    def test_words_are_asked_by_name(self):
        with self.assertRaises(TypeError):
            surely(plant(), ["slip"], ["stop"])
        with self.assertRaises(TypeError):
            surely(plant(), seen=["slip"])

    def test_1000_marked_standings_but_not_more(self):
        exact, over = works_of_1000(), works_of_1000([(0, "y", 9)])
        self.assertEqual(len(marked_by_hand(exact, SEEN_OF_1000, [])), 1000)
        self.assertEqual(len(marked_by_hand(over, SEEN_OF_1000, [])), 1040)
        for seen in [SEEN_OF_1000, tuple(SEEN_OF_1000[::-1] * 2)]:
            self.assertIs(surely(exact, seen=seen, wanted=[]), False)
            self.assertIsNone(sure_paper(exact, seen=seen, wanted=[]))
            for call in self.calls(over)[:3]:
                self.refuses(TooMany, 1000, call, seen, [])
                self.refuses(TooMany, 1000, call, seen, ["none"])
                self.assertIsNone(raised(call, seen, ["y"]))
                self.assertIsNone(raised(call, seen[1:], ["a", "b", "c"]))

    def test_a_paper_of_1000(self):
        hands = works_of_1000().hands
        lazy = Works(hands[:2] + (Hand(0, [*ring(5, "z"), (4, "w", 4)]),), diligent=[2])
        ahead, ranks = sure_paper(lazy, seen=SEEN_OF_1000, wanted=["w", "z"])
        self.assertEqual((len(ahead), len(ranks)), (199, 1))
        busy = Works(hands, bars=[], diligent=[0, 1])
        found = escape(busy, seen=SEEN_OF_1000, wanted=["none"])
        self.assertIs(is_escape(busy, found, seen=SEEN_OF_1000, wanted=["none"]), True)

    def test_also_where_the_answer_could_be_found_earlier(self):
        """Without diligent hands every run ends fairly, and where a word that is lacking is seen all is sure."""
        over = works_of_1000([(0, "y", 9)])
        for call in self.calls(over)[:3]:
            self.refuses(TooMany, 1000, call, [*SEEN_OF_1000, "none"], [])
            self.refuses(TooMany, 1000, call, [*SEEN_OF_1000, "x"], [])

    def test_the_judges_take_more(self):
        over = works_of_1000([(0, "y", 9)])
        seen = [*SEEN_OF_1000, "none"]
        met = sorted(marked_by_hand(over, seen, []))
        self.assertEqual(len(met), 1040)
        self.assertIs(is_sure_paper(over, (met, {}), seen=seen, wanted=[]), True)
        self.assertIs(is_sure_paper(over, (met[1:], {}), seen=seen, wanted=[]), False)
        stem = tuple((word, (0, 0, 0)) for word in "abc")
        chain = [("x", 1), ("d", 1), ("e", 1), ("x", 2), ("x", 3), ("g", 3), ("h", 3)]
        stem += tuple((word, (0, state, 0)) for word, state in chain)
        self.assertIs(is_escape(over, (stem, ()), seen=SEEN_OF_1000, wanted=[]), True)
        self.assertIs(is_escape(over, (stem, stem[-1:]), seen=SEEN_OF_1000, wanted=["y"]), True)
        self.assertIs(is_escape(over, (stem, ()), seen=seen, wanted=[]), False)


class Same(unittest.TestCase):
    """[3] what is passed stays, what is returned is new, equal arguments give equal values."""

    def test_rows_in_any_order_and_words_twice(self):
        chance = random.Random(46)
        for _ in range(150):
            parts = some_whole_parts(chance)
            works = Works(**parts)
            seen = chance.sample(works.words, chance.randrange(3))
            wanted = chance.sample(works.words, chance.randrange(3))
            other = turned(chance, parts)
            for call in (surely, sure_paper, escape):
                expected = call(works, seen=seen, wanted=wanted)
                found = call(other, seen=tuple(seen[::-1] * 2), wanted=tuple(wanted[::-1] + wanted[:1]))
                self.assertEqual(found, expected)
                if call is sure_paper and expected is not None:
                    self.assertEqual(list(found[1].items()), list(expected[1].items()))

    def test_no_seen_words_are_an_empty_row(self):
        for _, works, _, wanted in questions(47, 40):
            for call in (surely, sure_paper, escape):
                self.assertEqual(call(works, wanted=wanted), call(works, seen=[], wanted=wanted))
            for thing in [sure_paper(works, wanted=wanted), escape(works, wanted=wanted)]:
                for judge in (is_sure_paper, is_escape):
                    self.assertEqual(judge(works, thing, wanted=wanted), judge(works, thing, seen=(), wanted=wanted))

    def test_nothing_passed_is_changed(self):
        seen, wanted = ["slip", "slip"], ["stop", "none"]
        paper = sure_paper(plant(), seen=seen, wanted=wanted)
        before = copy.deepcopy((seen, wanted, paper))
        self.assertIs(is_sure_paper(plant(), paper, seen=seen, wanted=wanted), True)
        self.assertEqual((seen, wanted, paper), before)
        paper[0].clear()
        paper[1].clear()
        self.assertEqual(sure_paper(plant(), seen=seen, wanted=wanted), before[2])


if __name__ == "__main__":
    unittest.main()
