import copy
import itertools
import unittest

from tests.things import Refusing, nested, raised, strange_things
from watchedworks.errors import BadBars, BadFaults, BadHands, BadSecrets, BadWord, TooMany
from watchedworks.hands import Hand
from watchedworks.works import Works

PUMP = Hand(0, [(0, "start", 1), (1, "stop", 0), (1, "slip", 2), (2, "stop", 0), (2, "burst", 3)])
LAMP = Hand(5, [(5, "on", 6), (6, "off", 5), (6, "flash", 6)])
DOOR = Hand(1, [(1, "shut", 2), (2, "unbolt", 1)])


def made(**changed):
    """A works with everything, but for what is changed."""
    parts = {
        "hands": [PUMP, LAMP], "bars": [{0: 3}, {0: 2, 1: 6}], "faults": {"slip": "wear", "flash": "short"},
        "secrets": {"hot": [{0: 2}, {1: 6}], "dim": [{0: 0, 1: 5}]}, "diligent": [0, 1],
    }
    parts.update(changed)
    hands = parts.pop("hands")
    return Works(hands, **parts)


def cycle(length, word):
    return Hand(0, [(state, word, (state + 1) % length) for state in range(length)])


def with_words(words):
    return Works([Hand(0, [(at, word, at) for at, word in enumerate(words)])])


def all_told(works):
    """All that a works tells."""
    standings = works.standings()
    return (
        works.hands, works.words, works.faults, works.secrets, works.diligent, standings, works.kept(),
        [(works.moves(s), works.kept_moves(s), works.is_barred(s)) for s in standings],
        [[works.is_secret(name, s) for s in standings] for name in works.secrets],
        [works.fault_of(word) for word in works.words],
    )


class Equal(Refusing):
    """[13] when works are equal."""

    def equal(self, one, other):
        self.assertIs(one == other, True)
        self.assertIs(other == one, True)
        self.assertIs(one != other, False)
        self.assertEqual(all_told(one), all_told(other))

    def unequal(self, one, other):
        self.assertIs(one == other, False)
        self.assertIs(other == one, False)
        self.assertIs(one != other, True)

    def test_made_alike(self):
        self.equal(made(), made())
        self.equal(Works([PUMP]), Works([PUMP], bars=[], faults={}, secrets={}, diligent=[]))

    def test_steps_in_another_order(self):
        self.equal(made(), made(hands=[Hand(0, PUMP.steps[::-1]), Hand(5, LAMP.steps[::-1])]))

    def test_bars_in_another_order_or_twice(self):
        self.equal(made(), made(bars=[{1: 6, 0: 2}, {0: 3}]))
        self.equal(made(), made(bars=[{0: 3}, {1: 6, 0: 2}, {0: 3}, {0: 2, 1: 6}]))
        self.unequal(made(), made(bars=[{0: 3}, {0: 3}]))

    def test_patterns_of_secrets_in_another_order_or_twice(self):
        self.equal(made(), made(secrets={"dim": [{1: 5, 0: 0}] * 4, "hot": [{1: 6}, {0: 2}, {1: 6}]}))
        self.unequal(made(), made(secrets={"dim": [{1: 5, 0: 0}], "hot": [{1: 6}, {1: 6}]}))

    def test_faults_and_diligent_in_another_order(self):
        self.equal(made(), made(faults={"flash": "short", "slip": "wear"}, diligent=(1, 0)))

    def test_one_thing_changed(self):
        changes = [
            {"hands": [Hand(1, PUMP.steps), LAMP]}, {"hands": [PUMP, Hand(5, [*LAMP.steps, (80, "off", 80)])]},
            {"bars": [{0: 3}]}, {"bars": [{0: 3}, {0: 2, 1: 6}, {0: 4}]}, {"bars": [{0: 3}, {0: 2, 1: 7}]},
            {"bars": [{0: 3}, {0: 2}]}, {"bars": ()},
            {"faults": {"slip": "wear"}}, {"faults": {"slip": "wear", "flash": "wear"}}, {"faults": None},
            {"faults": {"slip": "wear", "on": "short"}}, {"faults": {"slip": "short", "flash": "wear"}},
            {"secrets": None}, {"secrets": {"hot": [{0: 2}, {1: 6}]}},
            {"secrets": {"hot": [{0: 2}], "dim": [{0: 0, 1: 5}]}},
            {"secrets": {"hot": [{0: 0, 1: 5}], "dim": [{0: 2}, {1: 6}]}},
            {"secrets": {"cold": [{0: 2}, {1: 6}], "dim": [{0: 0, 1: 5}]}},
            {"diligent": [0]}, {"diligent": [1]}, {"diligent": []},
        ]
        for change in changes:
            self.unequal(made(), made(**change))

    def test_hands_in_another_order(self):
        self.unequal(Works([PUMP, LAMP]), Works([LAMP, PUMP]))
        self.unequal(Works([PUMP, LAMP]), Works([PUMP]))

    def test_no_other_thing_is_equal(self):
        works = Works([DOOR])
        for thing in strange_things():
            self.unequal(works, thing)


class Added(Refusing):
    """[13] the works of two works."""

    def test_all_of_both(self):
        one = made()
        other = Works([DOOR], bars=[{0: 7}], faults={"shut": "wear"}, secrets={"shut": [{0: 2}]}, diligent=[0])
        self.assertEqual(one + other, Works(
            [PUMP, LAMP, DOOR], bars=[{0: 3}, {0: 2, 1: 6}, {2: 7}],
            faults={"slip": "wear", "flash": "short", "shut": "wear"},
            secrets={"hot": [{0: 2}, {1: 6}], "dim": [{0: 0, 1: 5}], "shut": [{2: 2}]}, diligent=[0, 1, 2],
        ))
        self.assertEqual(other + one, Works(
            [DOOR, PUMP, LAMP], bars=[{0: 7}, {1: 3}, {1: 2, 2: 6}],
            faults={"slip": "wear", "flash": "short", "shut": "wear"},
            secrets={"hot": [{1: 2}, {2: 6}], "dim": [{1: 0, 2: 5}], "shut": [{0: 2}]}, diligent=[0, 1, 2],
        ))

    def test_exactly_the_diligent_hands_are_diligent(self):
        for one in [[], [0], [1], [0, 1]]:
            for other in [[], [0]]:
                works = made(diligent=one) + Works([DOOR], diligent=other)
                self.assertEqual(works.diligent, tuple(one + [2 for _ in other]))

    def test_what_is_told_of_the_sum(self):
        works = Works([LAMP], bars=[{0: 6}]) + Works([DOOR], secrets={"shut": [{0: 2}]})
        self.assertEqual(works.hands, (LAMP, DOOR))
        self.assertEqual(works.standings(), [(5, 1), (5, 2), (6, 1), (6, 2)])
        self.assertEqual(works.kept(), [(5, 1), (5, 2)])
        self.assertTrue(works.is_secret("shut", (6, 2)))
        self.assertFalse(works.is_secret("shut", (6, 1)))

    def test_nothing_is_changed(self):
        one, other = made(), Works([DOOR], bars=[{0: 2}], secrets={"shut": [{0: 2}]}, diligent=[0])
        before = copy.deepcopy([all_told(one), all_told(other)])
        one + other
        raised(lambda: one + one)
        self.assertEqual([all_told(one), all_told(other)], before)
        self.assertEqual(one, made())

    def test_only_a_works_is_added(self):
        for thing in strange_things():
            if not isinstance(thing, Works):
                self.refuses(BadHands, -1, lambda: made() + thing)

    def test_3_hands_but_not_4(self):
        self.assertEqual(len((Works([PUMP]) + Works([LAMP, DOOR])).hands), 3)
        self.refuses(BadHands, -1, lambda: made() + Works([DOOR, DOOR]))
        self.refuses(BadHands, -1, lambda: Works([DOOR]) + Works([PUMP, LAMP, Hand(0, [(0, "x", 0)])]))
        self.refuses(BadHands, -1, lambda: made() + made())

    def test_no_word_of_both(self):
        self.refuses(BadWord, "burst", lambda: Works([PUMP]) + Works([PUMP]))
        for words in itertools.permutations(["zz", "slip", "stop", "aa"]):
            self.refuses(BadWord, "slip", lambda: Works([PUMP]) + with_words(words))
            self.refuses(BadWord, "slip", lambda: with_words(words) + Works([PUMP]))

    def test_no_secret_of_both(self):
        one = Works([PUMP], secrets={"c": [{0: 1}], "b": [{0: 1}], "d": [{0: 1}]})
        other = Works([DOOR], secrets={"d": [{0: 1}], "a": [{0: 1}], "c": [{0: 1}]})
        self.refuses(BadSecrets, "c", lambda: one + other)
        self.refuses(BadSecrets, "c", lambda: other + one)

    def test_6_different_bars_but_not_7(self):
        one = Works([PUMP], bars=[{0: 3}, {0: 7}, {0: 8}, {0: 3}, {0: 3}, {0: 8}])
        other = Works([DOOR], bars=[{0: 2}, {0: 7}, {0: 8}, {0: 7}, {0: 2}, {0: 7}])
        self.assertEqual(
            one + other, Works([PUMP, DOOR], bars=[{0: 3}, {0: 7}, {0: 8}, {1: 2}, {1: 7}, {1: 8}]),
        )
        more = Works([DOOR], bars=[{0: 2}, {0: 7}, {0: 8}, {0: 9}])
        self.refuses(BadBars, -1, lambda: one + more)
        self.refuses(BadBars, -1, lambda: more + one)

    def test_2_names_of_faults_but_not_3(self):
        one = Works([PUMP], faults={"slip": "wear", "burst": "short"})
        self.assertEqual((one + Works([LAMP], faults={"flash": "short"})).faults, ["short", "wear"])
        self.assertEqual((Works([LAMP], faults={"on": "a"}) + Works([DOOR], faults={"shut": "b"})).faults, ["a", "b"])
        self.refuses(BadFaults, -1, lambda: one + Works([LAMP], faults={"flash": "dark"}))

    def test_3_secrets_but_not_4(self):
        one = Works([PUMP], secrets={"a": [{0: 1}], "b": [{0: 1}]})
        self.assertEqual((one + Works([LAMP], secrets={"c": [{0: 6}]})).secrets, ["a", "b", "c"])
        self.refuses(BadSecrets, -1, lambda: one + Works([LAMP], secrets={"c": [{0: 6}], "d": [{0: 6}]}))

    def test_10_words_but_not_11(self):
        self.assertEqual(len((with_words("abcde") + with_words("fghij")).words), 10)
        self.refuses(TooMany, 10, lambda: with_words("abcde") + with_words("fghijk"))

    def test_60_standings_but_not_more(self):
        self.assertEqual(len((Works([cycle(6, "a")]) + Works([cycle(10, "b")])).standings()), 60)
        aside = Works([Hand(0, [*cycle(5, "b").steps, (0, "z", 90)]), Hand(0, [*cycle(6, "c").steps, (0, "z", 90)])])
        self.assertEqual(len(aside.standings()), 31)
        self.refuses(TooMany, 60, lambda: Works([cycle(2, "a")]) + aside)
        self.refuses(TooMany, 60, lambda: Works([cycle(2, "a")], bars=[{0: 1}]) + aside)
        self.refuses(TooMany, 10, lambda: Works([Hand(0, [
            (0, "a", 1), (1, "d", 1), (1, "e", 1), (2, "f", 1), (2, "g", 1), (2, "h", 1), (3, "i", 1), (3, "j", 1),
        ])]) + aside)

    def test_the_order_of_the_errors(self):
        full = {"bars": [{0: state} for state in range(2, 8)], "faults": {"a": "f", "b": "g"}}
        full["secrets"] = {"s": [{0: 1}], "t": [{0: 1}]}
        one = Works([Hand(0, [(0, "a", 1), (1, "b", 0), *[(8, word, 8) for word in "cde"]])], **full)
        self.assertEqual(len(one.words), 5)

        def other(words, bars=0, faults=(), secrets=(), many=1):
            hand = Hand(0, [(at, word, at) for at, word in enumerate(words)])
            return Works(
                [hand] * many, bars=[{0: 50}] * bars, faults=dict(zip(words, faults)),
                secrets={name: [{0: 1}] for name in secrets},
            )

        self.refuses(BadHands, -1, lambda: one + other("efghij", 1, "xy", "suv", 3))
        self.refuses(BadWord, "e", lambda: one + other("efghij", 1, "xy", "suv"))
        self.refuses(BadSecrets, "s", lambda: one + other("fghijk", 1, "xy", "suv"))
        self.refuses(BadBars, -1, lambda: one + other("fghijk", 1, "xy", "uv"))
        self.refuses(BadFaults, -1, lambda: one + other("fghijk", 0, "xy", "uv"))
        self.refuses(BadSecrets, -1, lambda: one + other("fghijk", 0, "", "uv"))
        self.refuses(TooMany, 10, lambda: one + other("fghijk", 0, "", "u"))
        self.assertIsNone(raised(lambda: one + other("fghij", 0, "", "u")))


class Renamed(Refusing):
    """[13] a works with other words."""

    def test_all_that_has_words(self):
        works = made().renamed({"slip": "slide", "on": "a", "flash": "zz"})
        pump = Hand(0, [(0, "start", 1), (1, "stop", 0), (1, "slide", 2), (2, "stop", 0), (2, "burst", 3)])
        lamp = Hand(5, [(5, "a", 6), (6, "off", 5), (6, "zz", 6)])
        self.assertEqual(works, made(hands=[pump, lamp], faults={"slide": "wear", "zz": "short"}))
        self.assertEqual([hand.steps for hand in works.hands], [pump.steps, lamp.steps])
        self.assertEqual(works.words, ["a", "burst", "off", "slide", "start", "stop", "zz"])
        self.assertEqual(works.moves((2, 6)), [
            ("burst", (3, 6)), ("off", (2, 5)), ("stop", (0, 6)), ("zz", (2, 6)),
        ])

    def test_nothing_to_rename(self):
        self.assertEqual(made().renamed({}), made())
        self.assertEqual(made().renamed({"on": "on", "off": "off"}), made())

    def test_words_that_exchange_their_names(self):
        works = made().renamed({"stop": "slip", "slip": "stop"})
        self.assertEqual(works.hands[0].steps, (
            (0, "start", 1), (1, "slip", 0), (1, "stop", 2), (2, "slip", 0), (2, "burst", 3),
        ))
        self.assertEqual(works.fault_of("stop"), "wear")
        self.assertIsNone(works.fault_of("slip"))
        self.assertEqual(works.renamed({"stop": "slip", "slip": "stop"}), made())
        round_of_three = {"on": "off", "off": "flash", "flash": "on"}
        self.assertEqual(made().renamed(round_of_three).fault_of("on"), "short")

    def test_a_word_of_several_hands(self):
        works = Works([PUMP, PUMP]).renamed({"start": "run"})
        self.assertEqual(works.moves((0, 0)), [("run", (1, 1))])

    def test_nothing_is_changed(self):
        works, names = made(), {"slip": "slide"}
        before = all_told(works)
        works.renamed(names)
        self.assertEqual(all_told(works), before)
        self.assertEqual(names, {"slip": "slide"})

    def test_bars_secrets_and_diligent_hands_stay(self):
        works = made(diligent=[1]).renamed({"slip": "slide"})
        self.assertEqual(works.diligent, (1,))
        self.assertEqual(works.kept(), made().kept())
        self.assertEqual(works.secrets, ["dim", "hot"])

    def test_only_a_dict(self):
        for thing in strange_things():
            if not isinstance(thing, dict):
                self.refuses(BadWord, thing, made().renamed, thing)

    def test_keys_are_words_of_the_works(self):
        for key in ["", "A", "sli", "wear", "hot", "shut", "\ud800", None, 0, True, 1.5, b"slip", ("slip",), len,
                    float("nan"), 10 ** 5000, nested(100, lambda k: (k,)), nested(100, lambda k: frozenset([k]))]:
            self.refuses(BadWord, key, made().renamed, {key: "new"})
            self.refuses(BadWord, key, made().renamed, {"stop": "new", key: "more"})

    def test_values_are_names(self):
        for thing in strange_things():
            if not isinstance(thing, str) or thing not in ("a", "b", "z", "abcdefghij"):
                self.refuses(BadWord, "slip", made().renamed, {"slip": thing})
                self.refuses(BadWord, "slip", made().renamed, {"stop": "new", "slip": thing, "start": "new"})
        self.assertIn("abcdefghij", made().renamed({"slip": "abcdefghij"}).words)

    def test_the_least_key_is_told(self):
        for items in itertools.permutations([("on", 3), ("slip", "S"), ("later", "f"), ("burst", "f"), ("zz", None)]):
            self.refuses(BadWord, "later", made().renamed, dict(items))
        for items in itertools.permutations([("on", 3), ("", "S"), (7, "f"), ("burst", "f")]):
            self.refuses(BadWord, 7, made().renamed, dict(items))

    def test_no_two_words_get_one_name(self):
        self.refuses(BadWord, "stop", made().renamed, {"slip": "stop"})
        self.refuses(BadWord, "new", made().renamed, {"slip": "new", "on": "new"})
        self.refuses(BadWord, "off", made().renamed, {"slip": "zz", "on": "zz", "burst": "off"})
        self.refuses(BadWord, "on", made().renamed, {"slip": "on", "on": "on"})
        self.refuses(BadWord, "slip", made().renamed, {"stop": "slip", "start": "slip"})

    def test_the_least_name_that_two_words_get_is_told(self):
        for low, high in [("aa", "zz"), ("m", "off")]:
            names = {"burst": high, "flash": high, "slip": low, "start": low}
            for items in itertools.permutations(names.items()):
                self.refuses(BadWord, low, made().renamed, dict(items))

    def test_wrong_keys_and_values_come_first(self):
        self.refuses(BadWord, "zz", made().renamed, {"slip": "aa", "on": "aa", "zz": "x"})
        self.refuses(BadWord, "stop", made().renamed, {"slip": "aa", "on": "aa", "stop": 3})


if __name__ == "__main__":
    unittest.main()
