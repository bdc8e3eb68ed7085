import copy
import itertools
import unittest

from tests.things import Refusing, is_plain_integer, nested, raised, strange_things
from watchedworks.errors import BadBars, BadDiligent, BadFaults, BadHands, BadSecrets, TooMany
from watchedworks.hands import Hand
from watchedworks.works import Works

PUMP = Hand(0, [(0, "start", 1), (1, "stop", 0), (1, "slip", 2), (2, "stop", 0), (2, "burst", 3)])
LAMP = Hand(5, [(5, "on", 6), (6, "off", 5)])
BOTH = [PUMP, LAMP]


def cycle(length, word):
    return Hand(0, [(state, word, (state + 1) % length) for state in range(length)])


def hand_with_words(words):
    return Hand(0, [(at, word, at) for at, word in enumerate(words)])


def is_good_pattern(thing, many):
    return (
        isinstance(thing, dict) and len(thing) > 0
        and all(is_plain_integer(at) and 0 <= at < many for at in thing)
        and all(is_plain_integer(state) and 0 <= state <= 99 for state in thing.values())
    )


class BadHandsRaised(Refusing):
    """[7] hands."""

    def test_a_row_of_1_to_3(self):
        for thing in strange_things():
            if not isinstance(thing, (list, tuple)) or len(thing) == 0:
                self.refuses(BadHands, -1, Works, thing)
        self.refuses(BadHands, -1, Works, [LAMP] * 4)
        self.refuses(BadHands, -1, Works, [None] * 4)
        self.assertEqual(Works([LAMP] * 3).standings(), [(5, 5, 5), (6, 6, 6)])
        self.assertEqual(Works((LAMP,)).hands, (LAMP,))

    def test_each_item_is_a_hand(self):
        for thing in strange_things():
            if not isinstance(thing, Hand):
                self.refuses(BadHands, 0, Works, [thing])
                self.refuses(BadHands, 1, Works, (LAMP, thing, None))
                self.refuses(BadHands, 2, Works, [LAMP, LAMP, thing])

    def test_hands_come_first(self):
        for thing in strange_things():
            self.refuses(BadHands, -1, Works, [], bars=thing, faults=thing, secrets=thing, diligent=thing)
        self.refuses(BadHands, 1, Works, [LAMP, 1], bars=1, faults=1, secrets=1, diligent=1)

    def test_the_others_are_passed_by_their_names(self):
        with self.assertRaises(TypeError):
            Works([PUMP], [])


class BadBarsRaised(Refusing):
    """[8] bars."""

    def test_a_row_of_at_most_6(self):
        for thing in strange_things():
            if not isinstance(thing, (list, tuple)):
                self.refuses(BadBars, -1, Works, BOTH, bars=thing)
        self.refuses(BadBars, -1, Works, BOTH, bars=[{0: state} for state in range(1, 8)])
        self.refuses(BadBars, -1, Works, BOTH, bars=[{0: 3}] * 7)
        self.refuses(BadBars, -1, Works, BOTH, bars=[None] * 7)
        self.refuses(BadBars, -1, Works, BOTH, bars=None)
        self.assertTrue(Works(BOTH, bars=[{0: state} for state in range(1, 7)]).is_barred((1, 5)))
        self.assertTrue(Works(BOTH, bars=({0: 3},) * 6).is_barred((3, 5)))
        self.assertFalse(Works(BOTH, bars=[]).is_barred((3, 5)))

    def test_each_item_is_a_pattern(self):
        for thing in strange_things():
            if not is_good_pattern(thing, 2):
                self.refuses(BadBars, 0, Works, BOTH, bars=[thing])
                self.refuses(BadBars, 1, Works, BOTH, bars=({0: 3}, thing, None))

    def test_keys_are_indexes_of_hands(self):
        for key in [-1, 2, 3, True, False, 0.0, 1.0, "0", None, (), 10 ** 5000, nested(100, lambda k: (k,))]:
            self.refuses(BadBars, 0, Works, BOTH, bars=[{key: 3}])
            self.refuses(BadBars, 1, Works, BOTH, bars=[{0: 3}, {0: 4, key: 3} if key != 0 else {key: 3}])
        self.refuses(BadBars, 0, Works, [PUMP], bars=[{1: 3}])
        self.assertTrue(Works(BOTH, bars=[{1: 6}]).is_barred((0, 6)))

    def test_values_are_states(self):
        for thing in strange_things():
            if not is_plain_integer(thing) or not 0 <= thing <= 99:
                self.refuses(BadBars, 0, Works, BOTH, bars=[{0: thing}])
                self.refuses(BadBars, 0, Works, BOTH, bars=[{1: 6, 0: thing}])
        for state in [1, 50, 99]:
            self.assertEqual(len(Works(BOTH, bars=[{0: state}]).standings()), 8)
        self.refuses(BadBars, 0, Works, BOTH, bars=[{0: 100}])
        self.refuses(BadBars, 0, Works, BOTH, bars=[{0: -1}])

    def test_the_start_does_not_agree(self):
        self.refuses(BadBars, 0, Works, BOTH, bars=[{0: 0}])
        self.refuses(BadBars, 0, Works, BOTH, bars=[{1: 5}])
        self.refuses(BadBars, 2, Works, BOTH, bars=[{0: 3}, {0: 0, 1: 6}, {1: 5, 0: 0}, {}])
        self.assertTrue(Works(BOTH, bars=[{0: 0, 1: 6}]).is_barred((0, 6)))

    def test_bars_come_before_all_but_hands(self):
        for thing in strange_things():
            self.refuses(BadBars, 0, Works, BOTH, bars=[{}], faults=thing, secrets=thing, diligent=thing)


class BadFaultsRaised(Refusing):
    """[9] faults."""

    def test_none_or_a_dict(self):
        for thing in strange_things():
            if thing is not None and not isinstance(thing, dict):
                self.refuses(BadFaults, thing, Works, BOTH, faults=thing)
        self.assertEqual(Works(BOTH, faults=None).faults, [])
        self.assertEqual(Works(BOTH, faults={}).faults, [])

    def test_keys_are_words_of_the_works(self):
        for word in ["", "A", "stopp", "sto", "burst ", "\u00e9", "\ud800", "start\n", "xx"]:
            self.refuses(BadFaults, word, Works, BOTH, faults={word: "f"})
        self.refuses(BadFaults, "on", Works, [PUMP], faults={"on": "f"})
        self.assertEqual(Works(BOTH, faults={"on": "f"}).fault_of("on"), "f")

    def test_keys_that_are_no_strings(self):
        for key in [None, True, 0, 1.5, b"on", (), ("on",), frozenset(["on"]), nested(100, lambda k: (k,)), len, int,
                    10 ** 5000, float("nan"), Ellipsis, TooMany(3), range(2)]:
            self.refuses(BadFaults, key, Works, BOTH, faults={key: "f"})
            self.refuses(BadFaults, key, Works, BOTH, faults={"": "f", "aa": 3, key: "f", "on": "f"})

    def test_of_several_keys_that_are_no_strings_one_is_told(self):
        error = raised(Works, BOTH, faults={"zz": "f", 3: "f", None: "f", "aa": "f"})
        self.assertIsInstance(error, BadFaults)
        self.assertIn(error.value, [3, None])

    def test_values_are_names(self):
        for thing in strange_things():
            if not isinstance(thing, str) or thing not in ("a", "b", "z", "abcdefghij"):
                self.refuses(BadFaults, "on", Works, BOTH, faults={"off": "f", "on": thing})
        self.assertEqual(Works(BOTH, faults={"on": "abcdefghij"}).faults, ["abcdefghij"])

    def test_the_least_key_is_told(self):
        for items in itertools.permutations([("on", 3), ("slip", "F"), ("later", "f"), ("burst", "f"), ("zz", None)]):
            self.refuses(BadFaults, "later", Works, BOTH, faults=dict(items))
        for items in itertools.permutations([("on", 3), ("slip", "F"), ("stop", []), ("zz", None)]):
            self.refuses(BadFaults, "on", Works, BOTH, faults=dict(items))

    def test_at_most_2_names(self):
        three = {"on": "f", "off": "g", "slip": "h"}
        self.refuses(BadFaults, -1, Works, BOTH, faults=three)
        self.refuses(BadFaults, "xx", Works, BOTH, faults={**three, "xx": "f"})
        two = {"on": "g", "off": "f", "slip": "f", "burst": "g"}
        self.assertEqual(Works(BOTH, faults=two).faults, ["f", "g"])

    def test_faults_come_before_secrets_and_diligent(self):
        for thing in strange_things():
            self.refuses(BadFaults, 3, Works, BOTH, faults=3, secrets=thing, diligent=thing)
        self.refuses(BadFaults, -1, Works, BOTH, faults={"on": "f", "off": "g", "slip": "h"}, secrets=1, diligent=1)


class BadSecretsRaised(Refusing):
    """[10] secrets."""

    def test_none_or_a_dict_of_at_most_3(self):
        for thing in strange_things():
            if thing is not None and not isinstance(thing, dict):
                self.refuses(BadSecrets, thing, Works, BOTH, secrets=thing)
        four = {name: [{0: 1}] for name in "abcd"}
        self.refuses(BadSecrets, four, Works, BOTH, secrets=four)
        bad = {1: 1, 2: 2, 3: 3, None: 4}
        self.refuses(BadSecrets, bad, Works, BOTH, secrets=bad)
        three = {name: [{0: 1}] for name in "cab"}
        self.assertEqual(Works(BOTH, secrets=three).secrets, ["a", "b", "c"])
        self.assertEqual(Works(BOTH, secrets={}).secrets, [])

    def test_keys_are_names(self):
        for thing in ["", "A", "abcdefghijk", "a b", "\ud800", None, 0, True, 1.5, b"a", (), len, TooMany(1),
                      nested(100, lambda k: (k,)), 10 ** 5000]:
            self.refuses(BadSecrets, thing, Works, BOTH, secrets={thing: [{0: 1}]})
            self.refuses(BadSecrets, thing, Works, BOTH, secrets={"zzzz": [{0: 1}], thing: [{0: 1}], "a": [{0: 1}]})
        self.assertEqual(Works(BOTH, secrets={"abcdefghij": [{0: 1}]}).secrets, ["abcdefghij"])

    def test_values_are_rows_of_1_to_4_patterns(self):
        for thing in strange_things():
            if not isinstance(thing, (list, tuple)) or not all([is_good_pattern(one, 2) for one in thing]) or not thing:
                self.refuses(BadSecrets, "s", Works, BOTH, secrets={"a": [{0: 1}], "s": thing})
            if not is_good_pattern(thing, 2):
                self.refuses(BadSecrets, "s", Works, BOTH, secrets={"s": [{0: 1}, thing]})
        self.refuses(BadSecrets, "s", Works, BOTH, secrets={"s": []})
        self.refuses(BadSecrets, "s", Works, BOTH, secrets={"s": [{0: 1}] * 5})
        self.refuses(BadSecrets, "s", Works, BOTH, secrets={"s": [{2: 1}]})
        self.refuses(BadSecrets, "s", Works, BOTH, secrets={"s": [{0: 100}]})
        self.refuses(BadSecrets, "s", Works, BOTH, secrets={"s": [{True: 1}]})
        self.refuses(BadSecrets, "s", Works, BOTH, secrets={"s": [{0: 1, 1: False}]})
        self.assertTrue(Works(BOTH, secrets={"s": ({0: 1},) * 4}).is_secret("s", (1, 5)))

    def test_the_start_may_be_secret(self):
        self.assertTrue(Works(BOTH, secrets={"s": [{0: 0}]}).is_secret("s", (0, 5)))

    def test_the_least_key_is_told(self):
        for items in itertools.permutations([("c", []), ("b", 3), ("a", [{0: 1}])]):
            self.refuses(BadSecrets, "b", Works, BOTH, secrets=dict(items))
        for items in itertools.permutations([("c", []), ("b", 3), (7, [{0: 1}])]):
            self.refuses(BadSecrets, 7, Works, BOTH, secrets=dict(items))
        for items in itertools.permutations([("b", []), ("A", [{0: 1}]), ("B", [{0: 1}])]):
            self.refuses(BadSecrets, "A", Works, BOTH, secrets=dict(items))

    def test_secrets_come_before_diligent(self):
        for thing in strange_things():
            self.refuses(BadSecrets, "s", Works, BOTH, secrets={"s": []}, diligent=thing)


class BadDiligentRaised(Refusing):
    """[7] diligent."""

    def test_a_row(self):
        for thing in strange_things():
            if not isinstance(thing, (list, tuple)):
                self.refuses(BadDiligent, thing, Works, BOTH, diligent=thing)
        self.refuses(BadDiligent, None, Works, BOTH, diligent=None)

    def test_items_are_indexes_of_hands(self):
        for thing in strange_things():
            if not is_plain_integer(thing) or not 0 <= thing < 2:
                self.refuses(BadDiligent, thing, Works, BOTH, diligent=[thing])
                self.refuses(BadDiligent, thing, Works, BOTH, diligent=(1, thing, 7))
        self.refuses(BadDiligent, 2, Works, BOTH, diligent=[0, 1, 2])
        self.refuses(BadDiligent, -1, Works, BOTH, diligent=[-1])
        self.refuses(BadDiligent, True, Works, BOTH, diligent=[0, True])
        self.assertEqual(Works(BOTH, diligent=[1, 0]).diligent, (0, 1))

    def test_none_occurs_twice(self):
        self.refuses(BadDiligent, 1, Works, BOTH, diligent=[1, 0, 1, 9])
        self.refuses(BadDiligent, 0, Works, BOTH, diligent=(0, 0))
        self.refuses(BadDiligent, 0, Works, BOTH, diligent=[0] * 100000)


class TooManyRaised(Refusing):
    """[7] the limits."""

    def test_10_words_but_not_11(self):
        ten = hand_with_words("abcdefghij")
        self.assertEqual(len(Works([ten]).words), 10)
        self.assertEqual(len(Works([ten, hand_with_words("aj")]).words), 10)
        self.refuses(TooMany, 10, Works, [hand_with_words("abcdefghijk")])
        self.refuses(TooMany, 10, Works, [ten, hand_with_words("k")])
        self.refuses(TooMany, 10, Works, [hand_with_words("abcd"), hand_with_words("efgh"), hand_with_words("ijk")])

    def test_60_reached_standings_but_not_61(self):
        six, ten = cycle(6, "a"), cycle(10, "b")
        self.assertEqual(len(Works([six, ten]).standings()), 60)
        aside = [Hand(0, [*hand.steps, (0, "z", 90)]) for hand in [six, ten]]
        self.refuses(TooMany, 60, Works, aside)
        self.refuses(TooMany, 60, Works, [cycle(4, "a"), cycle(4, "b"), cycle(4, "c")])
        self.refuses(TooMany, 60, Works, [cycle(20, "a"), cycle(20, "b"), cycle(20, "c")])

    def test_standings_behind_bars_count(self):
        bars = [{0: 1}]
        self.assertEqual(len(Works([cycle(6, "a"), cycle(10, "b")], bars=bars).kept()), 10)
        self.refuses(TooMany, 60, Works, [cycle(7, "a"), cycle(9, "b")], bars=bars)

    def test_states_that_are_not_reached_do_not_count(self):
        apart = Hand(0, [(state, "a", state + 1) for state in range(1, 20)])
        self.assertEqual(len(Works([cycle(6, "b"), cycle(10, "c"), apart]).standings()), 60)

    def test_words_come_before_standings(self):
        words = [Hand(0, [(0, word, 1) for word in three] + [(1, three[0], 2)]) for three in ["abc", "def", "ghi"]]
        self.assertEqual(len(Works(words).standings()), 27)
        long = [cycle(7, "a"), cycle(9, "b"), hand_with_words("cdefghijk")]
        self.refuses(TooMany, 10, Works, long)

    def test_behind_all_other_errors(self):
        for hands in [[hand_with_words("abcdefghijk")], [cycle(20, "a"), cycle(20, "b")]]:
            self.refuses(BadHands, len(hands), Works, [*hands, None])
            self.refuses(BadBars, 0, Works, hands, bars=[{}])
            self.refuses(BadFaults, "q", Works, hands, faults={"q": "f"})
            self.refuses(BadSecrets, "S", Works, hands, secrets={"S": [{0: 1}]})
            self.refuses(BadDiligent, 5, Works, hands, diligent=[5])


class Copies(unittest.TestCase):
    """[3] and [4]: nothing that is passed is changed, or kept to be changed."""

    def setUp(self):
        self.passed = {
            "bars": [{0: 3}, {1: 6, 0: 2}], "faults": {"slip": "wear", "off": "dark"},
            "secrets": {"hot": [{0: 2}, {0: 1, 1: 6}], "cold": [{1: 6}]}, "diligent": [1, 0],
        }

    def test_nothing_is_changed(self):
        before = copy.deepcopy(self.passed)
        hands = list(BOTH)
        Works(hands, **self.passed)
        self.assertEqual(self.passed, before)
        self.assertEqual(list(self.passed["secrets"]), ["hot", "cold"])
        self.assertEqual(list(self.passed["faults"]), ["slip", "off"])
        self.assertEqual(hands, BOTH)

    def test_what_was_passed_may_change_afterwards(self):
        same = Works(BOTH, **copy.deepcopy(self.passed))
        hands = list(BOTH)
        works = Works(hands, **self.passed)
        hands.clear()
        self.passed["bars"][0][0] = 1
        self.passed["bars"].pop()
        self.passed["faults"].clear()
        self.passed["secrets"]["hot"][0][0] = 0
        self.passed["secrets"]["hot"].pop()
        self.passed["secrets"].pop("cold")
        self.passed["diligent"].clear()
        self.assertEqual(works, same)
        self.assertEqual(works.hands, (PUMP, LAMP))
        self.assertEqual(works.faults, ["dark", "wear"])
        self.assertEqual(works.secrets, ["cold", "hot"])
        self.assertEqual(works.diligent, (0, 1))
        for standing in works.standings():
            self.assertEqual(works.is_barred(standing), same.is_barred(standing))
            self.assertEqual(works.is_secret("hot", standing), same.is_secret("hot", standing))
            self.assertEqual(works.kept_moves(standing), same.kept_moves(standing))

    def test_tuples_count_as_lists_and_orders_of_keys_do_not_count(self):
        works = Works(BOTH, **self.passed)
        other = Works(
            tuple(BOTH), bars=({0: 3}, {0: 2, 1: 6}), faults={"off": "dark", "slip": "wear"},
            secrets={"cold": ({1: 6},), "hot": ({0: 2}, {1: 6, 0: 1})}, diligent=(1, 0),
        )
        self.assertEqual(works, other)
        self.assertEqual(works.kept(), other.kept())


if __name__ == "__main__":
    unittest.main()
