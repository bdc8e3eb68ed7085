import itertools
import random
import unittest

from tests.things import raised, strange_things
from watchedworks.errors import BadName, BadStanding, BadWord, TooMany
from watchedworks.hands import Hand
from watchedworks.works import Works


def plant():
    """The works of the document's example."""
    pump = Hand(0, [(0, "start", 1), (1, "stop", 0), (1, "slip", 2), (2, "stop", 0), (2, "burst", 3)])
    return Works([pump], bars=[{0: 3}], faults={"slip": "wear"}, secrets={"hot": [{0: 2}]}, diligent=[0])


def mill():
    """Two hands with a word in common, and a part that is only reached behind the bar."""
    wheel = Hand(1, [(1, "turn", 2), (2, "turn", 1), (2, "turn", 3), (3, "jam", 4), (4, "mend", 1), (4, "rest", 4)])
    gate = Hand(0, [(0, "lift", 1), (1, "turn", 1), (1, "turn", 0)])
    return Works(
        [wheel, gate], bars=[{0: 3}, {0: 2, 1: 0}], faults={"jam": "wear", "turn": "heat"},
        secrets={"idle": [{0: 1}, {0: 4, 1: 1}], "gate": [{1: 1}]}, diligent=[1],
    )


class Example(unittest.TestCase):
    """[1] and the example: what it says of the standings."""

    def test_standings(self):
        works = plant()
        self.assertEqual(works.standings(), [(0,), (1,), (2,), (3,)])
        self.assertEqual(works.kept(), [(0,), (1,), (2,)])
        self.assertEqual([works.is_barred(standing) for standing in works.standings()], [False, False, False, True])
        self.assertEqual([works.is_secret("hot", (state,)) for state in range(4)], [False, False, True, False])

    def test_moves(self):
        works = plant()
        self.assertEqual(works.moves((2,)), [("burst", (3,)), ("stop", (0,))])
        self.assertEqual(works.kept_moves((2,)), [("stop", (0,))])
        self.assertEqual(works.moves((1,)), [("slip", (2,)), ("stop", (0,))])
        self.assertEqual(works.kept_moves((1,)), works.moves((1,)))
        self.assertEqual(works.moves((3,)), [])

    def test_the_rest(self):
        works = plant()
        self.assertEqual(works.words, ["burst", "slip", "start", "stop"])
        self.assertEqual(works.faults, ["wear"])
        self.assertEqual(works.secrets, ["hot"])
        self.assertEqual(works.diligent, (0,))
        self.assertEqual([works.fault_of(word) for word in works.words], [None, "wear", None, None])


class Told(unittest.TestCase):
    """[7], [8], [11], [12] what a works tells."""

    def test_standings_reached_and_kept(self):
        works = mill()
        self.assertEqual(
            works.standings(),
            [(1, 0), (1, 1), (2, 0), (2, 1), (3, 0), (3, 1), (4, 0), (4, 1)],
        )
        self.assertEqual(works.kept(), [(1, 0), (1, 1), (2, 1)])

    def test_moves(self):
        works = mill()
        self.assertEqual(works.moves((1, 0)), [("lift", (1, 1))])
        self.assertEqual(works.moves((1, 1)), [("turn", (2, 0)), ("turn", (2, 1))])
        self.assertEqual(
            works.moves((2, 1)), [("turn", (1, 0)), ("turn", (1, 1)), ("turn", (3, 0)), ("turn", (3, 1))],
        )
        self.assertEqual(works.moves((3, 0)), [("jam", (4, 0)), ("lift", (3, 1))])
        self.assertEqual(works.moves((4, 1)), [("mend", (1, 1)), ("rest", (4, 1))])

    def test_kept_moves(self):
        works = mill()
        self.assertEqual(works.kept_moves((1, 0)), [("lift", (1, 1))])
        self.assertEqual(works.kept_moves((1, 1)), [("turn", (2, 1))])
        self.assertEqual(works.kept_moves((2, 1)), [("turn", (1, 0)), ("turn", (1, 1))])

    def test_kept_moves_at_standings_that_are_not_kept(self):
        works = mill()
        self.assertEqual(works.moves((3, 1)), [("jam", (4, 1))])
        self.assertEqual(works.kept_moves((3, 1)), [])
        self.assertEqual(works.kept_moves((2, 0)), [])
        self.assertEqual(works.kept_moves((4, 0)), [("lift", (4, 1)), ("mend", (1, 0)), ("rest", (4, 0))])
        self.assertNotIn((4, 0), works.kept())

    def test_barred_and_secret_standings(self):
        works = mill()
        self.assertEqual([s for s in works.standings() if works.is_barred(s)], [(2, 0), (3, 0), (3, 1)])
        self.assertEqual([s for s in works.standings() if works.is_secret("idle", s)], [(1, 0), (1, 1), (4, 1)])
        self.assertEqual(
            [s for s in works.standings() if works.is_secret("gate", s)], [(1, 1), (2, 1), (3, 1), (4, 1)],
        )
        for standing in works.standings():
            self.assertIsInstance(works.is_barred(standing), bool)
            self.assertIsInstance(works.is_secret("idle", standing), bool)

    def test_properties(self):
        works = mill()
        wheel, gate = works.hands
        self.assertIsInstance(works.hands, tuple)
        self.assertEqual((wheel.start, gate.start), (1, 0))
        self.assertEqual(works.words, ["jam", "lift", "mend", "rest", "turn"])
        self.assertEqual(works.faults, ["heat", "wear"])
        self.assertEqual(works.secrets, ["gate", "idle"])
        self.assertEqual(works.diligent, (1,))
        self.assertIsInstance(works.diligent, tuple)

    def test_properties_of_a_works_without_more(self):
        works = Works([Hand(0, [(7, "go", 8)])])
        self.assertEqual((works.faults, works.secrets, works.diligent), ([], [], ()))
        self.assertEqual((works.standings(), works.kept(), works.moves((0,))), ([(0,)], [(0,)], []))
        self.assertEqual(works.words, ["go"])
        self.assertIsNone(works.fault_of("go"))

    def test_one_name_for_several_words(self):
        works = Works(mill().hands, faults={"turn": "wear", "jam": "wear"})
        self.assertEqual(works.faults, ["wear"])
        self.assertEqual([works.fault_of(word) for word in works.words], ["wear", None, None, None, "wear"])

    def test_diligent_hands_ascend(self):
        hand = mill().hands[1]
        self.assertEqual(Works([hand] * 3, diligent=[2, 0, 1]).diligent, (0, 1, 2))
        self.assertEqual(Works([hand] * 3, diligent=(2, 0)).diligent, (0, 2))

    def test_a_word_may_lead_to_the_same_standing(self):
        works = Works([Hand(0, [(0, "wait", 0)])])
        self.assertEqual(works.moves((0,)), [("wait", (0,))])

    def test_a_word_without_a_step_of_a_hand_that_has_it_leads_nowhere(self):
        one, other = Hand(0, [(0, "a", 1), (1, "b", 0)]), Hand(0, [(1, "a", 0)])
        self.assertEqual(Works([one, other]).moves((0, 0)), [])
        self.assertEqual(Works([one]).moves((0,)), [("a", (1,))])

    def test_the_same_hand_twice(self):
        hand = Hand(0, [(0, "a", 1), (0, "a", 2)])
        self.assertEqual(Works([hand, hand]).moves((0, 0)), [("a", (x, y)) for x in (1, 2) for y in (1, 2)])

    def test_lists_are_new(self):
        works = mill()
        calls = [
            lambda: works.words, lambda: works.faults, lambda: works.secrets, works.standings, works.kept,
            lambda: works.moves((1, 1)), lambda: works.kept_moves((1, 1)),
        ]
        for call in calls:
            before = call()
            self.assertIsInstance(before, list)
            call().clear()
            call().append("more")
            self.assertEqual(call(), before)
            self.assertIsNot(call(), call())

    def test_properties_are_not_assigned(self):
        works = mill()
        for name in ["hands", "words", "faults", "secrets", "diligent"]:
            with self.assertRaises(AttributeError):
                setattr(works, name, ())


class Wrong(unittest.TestCase):
    """[12] the errors."""

    def asked(self, works):
        return [works.moves, works.kept_moves, works.is_barred, lambda standing: works.is_secret("idle", standing)]

    def test_standings(self):
        works = mill()
        wrong = [
            (1,), (1, 0, 0), (3, 2), (9, 9), (True, 0), (1, False), (1.0, 0), (1, 0.0), [1, 0], "10", ((1, 0),),
            (1, None), (1, []), ({}, 0), (10 ** 5000, 0), (-1, 0),
        ]
        for call in self.asked(works):
            for standing in wrong + strange_things():
                error = raised(call, standing)
                self.assertIsInstance(error, BadStanding)
                self.assertIs(error.standing, standing)

    def test_standings_that_are_reached_behind_bars_only_are_let(self):
        for call in self.asked(mill()):
            for standing in [(3, 0), (4, 1)]:
                self.assertIsNone(raised(call, standing))

    def test_names_of_secrets(self):
        works = mill()
        for name in ["wear", "idl", "turn", "Idle", ["idle"], ("idle",), b"idle", *strange_things()]:
            for standing in [(1, 0), (9, 9), None, [name]]:
                error = raised(works.is_secret, name, standing)
                self.assertIsInstance(error, BadName)
                self.assertIs(error.value, name)
        self.assertIsInstance(raised(Works(works.hands).is_secret, "idle", (1, 0)), BadName)

    def test_words(self):
        works = mill()
        for word in ["wear", "idle", "tur", "Turn", "turn ", ["turn"], ("turn",), b"turn", *strange_things()]:
            error = raised(works.fault_of, word)
            self.assertIsInstance(error, BadWord)
            self.assertIs(error.word, word)


class Compared(unittest.TestCase):
    """[7], [8], [11] against a works that is worked out from the words of the document."""

    def leads(self, hands, standing, word, behind):
        for hand, state, end in zip(hands, standing, behind):
            has_it = any(step[1] == word for step in hand.steps)
            if (state, word, end) not in hand.steps if has_it else state != end:
                return False
        return any(word in hand.words for hand in hands)

    def closure(self, start, moves):
        reached = {start}
        while True:
            more = {behind for standing, _, behind in moves if standing in reached} - reached
            if not more:
                return reached
            reached |= more

    def check(self, hands, bars):
        places = [sorted({hand.start, *[s[0] for s in hand.steps], *[s[2] for s in hand.steps]}) for hand in hands]
        every = list(itertools.product(*places))
        words = sorted({step[1] for hand in hands for step in hand.steps})
        moves = [(s, w, b) for s in every for w in words for b in every if self.leads(hands, s, w, b)]
        start = tuple(hand.start for hand in hands)
        barred = {s for s in every if any(all(s[at] == state for at, state in bar.items()) for bar in bars)}
        kept_moves = [move for move in moves if move[0] not in barred and move[2] not in barred]
        reached, kept = self.closure(start, moves), self.closure(start, kept_moves)
        if len(reached) > 60:
            self.assertIsInstance(raised(Works, hands, bars=bars), TooMany)
            return 1
        works = Works(hands, bars=bars)
        self.assertEqual(works.standings(), sorted(reached))
        self.assertEqual(works.kept(), sorted(kept))
        for standing in reached:
            self.assertEqual(works.is_barred(standing), standing in barred)
            self.assertEqual(works.moves(standing), sorted((w, b) for s, w, b in moves if s == standing))
            self.assertEqual(works.kept_moves(standing), sorted((w, b) for s, w, b in kept_moves if s == standing))
        return 0

    def hand(self, chance, words):
        steps = {(chance.randrange(5), chance.choice(words), chance.randrange(5)) for _ in range(12)}
        few = []
        for step in sorted(steps):
            if len([one for one in few if one[0] == step[0]]) < 3:
                few.append(step)
        return Hand(chance.randrange(5), few)

    def test_many_works(self):
        chance = random.Random(11)
        too_many = 0
        for _ in range(60):
            hands = [self.hand(chance, words) for words in chance.choice([["abc"], ["abc", "acd"], ["ab", "ac", "bd"]])]
            bars = [{chance.randrange(len(hands)): chance.randrange(5)} for _ in range(chance.randrange(4))]
            bars = [bar for bar in bars if any(hands[at].start != state for at, state in bar.items())]
            too_many += self.check(hands, bars)
        self.assertTrue(0 < too_many < 30)


if __name__ == "__main__":
    unittest.main()
