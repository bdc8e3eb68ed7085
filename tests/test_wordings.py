import random
import unittest

from tests.things import Refusing, strange_things
from watchedworks.errors import BadText, BadWish
from watchedworks.wordings import read_wish, worded

WORDED = {
    "kept": ("kept",),
    "told wear within 0": ("told", "wear", 0),
    "told kept within 1000": ("told", "kept", 1000),
    "told within within 10": ("told", "within", 10),
    "warned abcdefghij ahead 7": ("warned", "abcdefghij", 7),
    "warned a ahead 1000": ("warned", "a", 1000),
    "hidden hot": ("hidden", "hot", False),
    "hidden hot jointly": ("hidden", "hot", True),
    "hidden jointly": ("hidden", "jointly", False),
    "hidden jointly jointly": ("hidden", "jointly", True),
    "sure alarm by heat,smoke": ("sure", ("heat", "smoke"), ("alarm",)),
    "sure - by -": ("sure", (), ()),
    "sure stop by -": ("sure", (), ("stop",)),
    "sure - by stop": ("sure", ("stop",), ()),
    "sure by by by": ("sure", ("by",), ("by",)),
    "sure a,aa,ab,b by z": ("sure", ("z",), ("a", "aa", "ab", "b")),
}

WRONG_TEXTS = [
    "", " ", "kept ", " kept", "kept\n", "\nkept", "Kept", "KEPT", "kept kept", "keep", "told", "told wear", "hidden",
    "told wear within", "told wear within ", "told wear within 00", "told wear within 01", "told wear within 007",
    "told wear within 1001", "told wear within 10000", "told wear within +1", "told wear within -1", "told  within 1",
    "told wear within 1.0", "told wear within 1_0", "told wear within one", "told wear within  1",
    "told wear within 0 ", "told  wear within 0", " told wear within 0", "told wear ahead 0", "told wear 0",
    "told wear within \u0661", "told wear within \u00b2", "told wear within \uff11", "told wear within 1\n",
    "told Wear within 0", "told w\u00e9 within 0", "told abcdefghijk within 0", "told we-ar within 0",
    "tell wear within 0", "warned wear within 0", "warned wear ahead", "warned wear ahead 1001",
    "warned wear ahead 0x1", "warned ahead 1", "warned wear ahead 000", "warned wear  ahead 0", "warned wear ahead 0 1",
    "hidden ", "hidden hot ", "hidden hot joint", "hidden hot Jointly", "hidden hot jointly ", "hidden  jointly",
    "hidden hot jointly jointly", "hidden hot cold", "hidden Hot", "hidden hot\tjointly", "hidden hot  jointly", "sure",
    "sure -", "sure - by", "sure - by ", "sure  by -", "sure by -", "sure - -", "sure - By -", "sure - by - -",
    "sure smoke,heat by -", "sure - by smoke,heat", "sure a,a by -", "sure - by a,a", "sure a, b by -",
    "sure a,b, by -", "sure ,a by -", "sure a,,b by -", "sure , by -", "sure -,a by -", "sure a,- by -", "sure -- by -",
    "sure A by -", "sure a by b c", "sure a b by c", "sure a by b,", "sure abcdefghijk by -", "sure a1 by -",
    "sure a by b ", "surely a by b", "sure a;b by c", "sure a by b\n", "sure \u0430 by -", "none", "-", "by",
]


def some_name(chance):
    return "".join(chance.choice("abcxyz") for _ in range(chance.randrange(1, 11)))


def some_wishes(seed, number):
    chance = random.Random(seed)
    for _ in range(number):
        yield ("told", some_name(chance), chance.randrange(1001))
        yield ("warned", some_name(chance), chance.randrange(1001))
        yield ("hidden", some_name(chance), chance.random() < 0.5)
        rows = [tuple(sorted({some_name(chance) for _ in range(chance.randrange(5))})) for _ in range(2)]
        yield ("sure", *rows)


class Worded(Refusing):
    """[49] wishes written."""

    def test_by_hand(self):
        for text, wish in WORDED.items():
            self.assertEqual(worded(wish), text)

    def test_all_numbers(self):
        for number in range(1001):
            self.assertEqual(worded(("told", "wear", number)), "told wear within " + str(number))
            self.assertEqual(worded(("warned", "wear", number)), "warned wear ahead " + str(number))

    def test_other_things(self):
        for thing in strange_things():
            self.refuses(BadWish, thing, worded, thing)
            for wrong in [("told", (thing,), 0), ("hidden", "hot", (thing,)), ("hidden", thing, 0), (thing,),
                          ("sure", (thing, thing), ()), ("sure", (), (thing, "")), ("sure", thing), (thing, "wear", 0)]:
                self.refuses(BadWish, wrong, worded, wrong)

    def test_things_that_are_nearly_wishes(self):
        for wrong in [
            "kept", ["kept"], ("kept", None), ("Kept",), ("told", "wear"), ("told", "wear", -1), ("told", "wear", 1001),
            ("told", "wear", True), ("told", "wear", 1.0), ("told", "Wear", 1), ("told", "", 1), ("told", 1, "wear"),
            ("warned", "wear", None), ("warned", "wear", "1"), ["warned", "wear", 1], ("warned", "wear", 1, 1),
            ("hidden", "hot"), ("hidden", "hot", 1), ("hidden", "hot", 0), ("hidden", "hot", None), ("hidden", True),
            ("hidden", "abcdefghijk", True), ("sure", (), []), ("sure", [], ()), ("sure", ("b", "a"), ()),
            ("sure", (), ("b", "a")), ("sure", ("a", "a"), ()), ("sure", "a", "b"), ("sure", None, ()), ("sure", ()),
            ("sure", ("-",), ()), ("sure", ("a,b",), ()), ("sure", ("a", "B"), ()), ("sure", (), (), ()), (), None,
        ]:
            self.refuses(BadWish, wrong, worded, wrong)


class Read(Refusing):
    """[49] wishes read."""

    def test_by_hand(self):
        for text, wish in WORDED.items():
            self.assertEqual(read_wish(text), wish)
            self.assertEqual([type(part) for part in read_wish(text)], [type(part) for part in wish])

    def test_read_and_written(self):
        for wish in some_wishes(491, 200):
            text = worded(wish)
            self.assertIs(type(text), str)
            self.assertEqual(read_wish(text), wish)
            self.assertEqual([type(part) for part in read_wish(text)], [type(part) for part in wish])

    def test_all_numbers(self):
        for number in range(1001):
            self.assertEqual(read_wish("told wear within " + str(number)), ("told", "wear", number))
            self.assertEqual(read_wish("warned wear ahead " + str(number)), ("warned", "wear", number))

    def test_what_is_no_string(self):
        for thing in [*strange_things(), b"kept", ["kept"], ("kept",)]:
            if not isinstance(thing, str):
                self.refuses(BadText, -1, read_wish, thing)

    def test_texts_of_no_wish(self):
        for text in [*WRONG_TEXTS, *[thing for thing in strange_things() if isinstance(thing, str)]]:
            self.refuses(BadText, 0, read_wish, text)

    def test_changed_texts(self):
        """A text with a sign more, less or changed is only read if it is the wording of what is read."""
        read = 0
        for text in [*WORDED, *map(worded, some_wishes(492, 15))]:
            for at in range(len(text) + 1):
                for sign in ["", *" a,-0\n1Z\u00e9"]:
                    for changed in (text[:at] + sign + text[at:], text[:at] + sign + text[at + 1:]):
                        try:
                            wish = read_wish(changed)
                        except BadText as error:
                            self.assertEqual(error.at, 0)
                        else:
                            read += 1
                            self.assertEqual(worded(wish), changed)
        self.assertGreater(read, 500)

    def test_long_texts(self):
        self.refuses(BadText, 0, read_wish, "a" * 10 ** 6)
        self.refuses(BadText, 0, read_wish, " " * 10 ** 6)
        self.refuses(BadText, 0, read_wish, "told wear within " + "1" * 10 ** 5)
        self.refuses(BadText, 0, read_wish, "sure " + "a," * 10 ** 5 + "a by -")


if __name__ == "__main__":
    unittest.main()
