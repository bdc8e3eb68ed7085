import random
import unittest

from tests.chance import some_box, some_whole_parts, turned_box
from tests.test_keeping import example_box
from tests.test_works_told import mill, plant
from tests.things import Refusing, raised, strange_things
from watchedworks.boxes import Box
from watchedworks.errors import (
    BadBars, BadCost, BadDiligent, BadFaults, BadHands, BadInstrument, BadPost, BadSecrets, BadSights, BadStart,
    BadSteps, BadText, BadWords, TooMany,
)
from watchedworks.hands import Hand
from watchedworks.instruments import Lock, Sensor
from watchedworks.texts import read_text, written
from watchedworks.works import Works

PLANT = """\
hand 0
step 0 start 1
step 1 stop 0
step 1 slip 2
step 2 stop 0
step 2 burst 3
bar 0=3
fault slip wear
secret hot 0=2
diligent 0
sensor ear 0 2 slip=hum start=hum
sensor eye 0 3 slip=smoke
lock valve 0 1 burst
"""

# One line of each kind at least, and of most kinds several.
LINES = [
    "hand 0", "step 0 a 1", "step 1 b 0", "hand 5", "step 5 a 6", "step 6 c 5", "hand 9", "step 9 d 9", "bar 0=7",
    "bar 1=8 2=7", "fault a wear", "fault b tear", "secret hot 0=1", "secret hot 1=5 2=9", "secret low 2=1",
    "diligent 0 2", "lock grip 1 1000 a", "lock hold 0 7 b c zz", "sensor ear 0 1 a=hum",
    "sensor eye 1 20 a=s b=s other=t",
]
KINDS = ["hand", "bar", "fault", "secret", "diligent", "instrument"]

WRONG = {
    "hand": [
        "hand", "hand a", "hand -1", "hand 00", "hand 01", "hand 0 1", "hand +1", "hand 1000000", "hand 0x1",
        "hand 1_0", "hand \u0661", "hand \u00b2", "hand 0.", "hand None", "hand 0=1", "Hand 0", "hands 0",
        "hand\u00a00",
    ],
    "step": [
        "step", "step 0", "step 0 a", "step 0 a 1 2", "step a 0 1", "step 0 1 a", "step 00 a 1", "step 0 a 01",
        "step 0 A 1", "step 0 abcdefghijk 1", "step 0 a 1000000", "step 1000000 a 0", "step -1 a 1", "step 0 a -1",
        "step 0 a1 1", "step 0  1", "step 0 \u00e9 1", "step 0 1 2", "step a a a", "steps 0 a 1", "step 0,a,1",
        "step \u0661 a 1",
    ],
    "bar": [
        "bar", "bar 0", "bar 0=", "bar =0", "bar =", "bar 0=1=2", "bar 0==1", "bar 0=1 0=2", "bar 0=1 0=1", "bar 00=1",
        "bar 0=01", "bar a=1", "bar 0=a", "bar 0=1,1=2", "bar 0=1000000", "bar 1000000=0", "bar 0 = 1", "bar 0= 1",
        "bar 0=1 1", "bar 0=-1", "bar -1=0", "bar 0=1 1=2 0=1", "bar hot 0=1", "bars 0=1", "bar 0:1",
    ],
    "fault": [
        "fault", "fault c", "fault c wear tear", "fault C wear", "fault c 1", "fault 1 wear", "fault c abcdefghijk",
        "fault abcdefghijk wear", "fault c=wear", "fault c -", "fault c We", "faults c wear", "fault c w\u00e9",
    ],
    "secret": [
        "secret", "secret hot", "secret 0=1", "secret Hot 0=1", "secret hot 0", "secret hot 0=1 0=1",
        "secret hot 0=1 0=2", "secret hot 00=1", "secret hot 0=a", "secret hot a=0", "secret hot hot 0=1",
        "secret abcdefghijk 0=1", "secret hot 0=1000000", "secret hot 0=1=1", "secret 1 0=1", "secrets hot 0=1",
        "secret hot 0=1 low", "secret - 0=1",
    ],
    "diligent": [
        "diligent", "diligent a", "diligent 0,1", "diligent -1", "diligent 00", "diligent 01", "diligent 0 1000000",
        "diligent 0=1", "diligent 0 a", "diligent \u0660", "diligents 0", "diligent None",
    ],
    "sensor": [
        "sensor", "sensor nose", "sensor nose 0", "sensor nose 0 1", "sensor nose 0 1 b", "sensor nose 0 1 b=",
        "sensor nose 0 1 =b", "sensor nose 0 1 b=c=d", "sensor nose 0 1 b=c b=d", "sensor nose 0 1 b=c b=c",
        "sensor Nose 0 1 b=c", "sensor nose b 1 b=c", "sensor nose 0 b b=c", "sensor nose 0 01 b=c",
        "sensor nose 00 1 b=c", "sensor nose 0 1 b=1", "sensor nose 0 1 1=b", "sensor nose 0 1000000 b=c",
        "sensor nose 1000000 1 b=c", "sensor nose 0 -1 b=c", "sensor nose 0 1 b=None c", "sensor nose 0 1 b=c,d=e",
        "sensor nose 0 1 B=c", "sensor 0 1 b=c", "sensor abcdefghijk 0 1 b=c", "sensor nose 0 1 abcdefghijk=c",
        "sensor nose 0 1 b=abcdefghijk", "sensors nose 0 1 b=c", "sensor nose 0 1 b=c c=d b=c",
    ],
    "lock": [
        "lock", "lock bolt", "lock bolt 0", "lock bolt 0 1", "lock bolt 0 1 a a", "lock bolt 0 1 a b a",
        "lock bolt 0 1 a=b", "lock Bolt 0 1 a", "lock bolt a 1 a", "lock bolt 0 a a", "lock bolt 0 01 a",
        "lock bolt 00 1 a", "lock bolt 0 1 A", "lock bolt 0 1 1", "lock bolt 0 1000000 a", "lock bolt 1000000 1 a",
        "lock bolt 0 1 a,b", "lock bolt 0 1 abcdefghijk", "lock abcdefghijk 0 1 a", "lock bolt -1 1 a", "lock 0 1 a",
        "locks bolt 0 1 a", "lock bolt 0 1 -",
    ],
}


def text_of(lines):
    return "".join(line + "\n" for line in lines)


def kind_of(line):
    kind = line.split(" ")[0]
    return {"step": "hand", "sensor": "instrument", "lock": "instrument"}.get(kind, kind)


def lines_by_hand(parts, box):
    """The lines of a works that is made with these parts, and of a box."""
    def pattern(one):
        return " ".join(f"{at}={one[at]}" for at in sorted(one))

    lines = []
    for hand in parts["hands"]:
        lines += [f"hand {hand.start}", *[f"step {one} {word} {other}" for one, word, other in hand.steps]]
    lines += ["bar " + pattern(one) for one in parts["bars"]]
    lines += [f"fault {word} {name}" for word, name in sorted(parts["faults"].items())]
    for name, patterns in sorted(parts["secrets"].items()):
        lines += [f"secret {name} " + pattern(one) for one in patterns]
    if parts["diligent"]:
        lines.append("diligent " + " ".join(str(at) for at in sorted(parts["diligent"])))
    for one in [box[name] for name in box.names()]:
        if isinstance(one, Sensor):
            items = [f"{word}={sight}" for word, sight in sorted(one.sights.items())]
        else:
            items = sorted(one.words)
        kind = "sensor" if isinstance(one, Sensor) else "lock"
        lines.append(" ".join([kind, one.name, str(one.post), str(one.cost), *items]))
    return lines


class Written(unittest.TestCase):
    """[59]"""

    def test_the_plant(self):
        self.assertEqual(written(plant(), example_box()), PLANT)

    def test_the_mill(self):
        self.assertEqual(written(mill(), Box([Lock("lock", 1, ["turn", "jam"], 1000)])), text_of([
            "hand 1", "step 1 turn 2", "step 2 turn 1", "step 2 turn 3", "step 3 jam 4", "step 4 mend 1",
            "step 4 rest 4", "hand 0", "step 0 lift 1", "step 1 turn 1", "step 1 turn 0", "bar 0=3", "bar 0=2 1=0",
            "fault jam wear", "fault turn heat", "secret gate 1=1", "secret idle 0=1", "secret idle 0=4 1=1",
            "diligent 1", "lock lock 1 1000 jam turn",
        ]))

    def test_what_is_lacking_has_no_line(self):
        works = Works([Hand(3, [(3, "a", 99)])])
        self.assertEqual(written(works, Box([Lock("x", 0, ["b"], 1)])), "hand 3\nstep 3 a 99\nlock x 0 1 b\n")

    def test_orders(self):
        """Steps, bars and patterns as given; words, names and indexes ascend."""
        works = Works(
            [Hand(0, [(0, "b", 1), (0, "a", 1)]), Hand(0, [(0, "c", 0)])], bars=({1: 7, 0: 9}, {0: 5}, {1: 7, 0: 9}),
            faults={"c": "x", "a": "y"}, secrets={"two": [{1: 3}, {0: 1}], "one": [{1: 2, 0: 3}]}, diligent=[1, 0],
        )
        box = Box([Sensor("z", 1, {"b": "s", "a": "t"}, 5), Lock("m", 0, ["c", "b"], 4), Sensor("a", 0, {"q": "q"}, 1)])
        self.assertEqual(written(works, box), text_of([
            "hand 0", "step 0 b 1", "step 0 a 1", "hand 0", "step 0 c 0", "bar 0=9 1=7", "bar 0=5", "bar 0=9 1=7",
            "fault a y", "fault c x", "secret one 0=3 1=2", "secret two 1=3", "secret two 0=1", "diligent 0 1",
            "sensor a 0 1 q=q", "lock m 0 4 b c", "sensor z 1 5 a=t b=s",
        ]))

    def test_joined_and_renamed_works(self):
        lamp = Works([Hand(0, [(0, "lit", 1)])], bars=[{0: 5}], secrets={"on": [{0: 1}]}, diligent=[0])
        text = written((plant() + lamp).renamed({"lit": "aa"}), Box([Lock("x", 0, ["b"], 1)]))
        self.assertEqual(text.split("\n")[6:14], [
            "hand 0", "step 0 aa 1", "bar 0=3", "bar 1=5", "fault slip wear", "secret hot 0=2", "secret on 1=1",
            "diligent 0 1",
        ])

    def test_drawn_ones(self):
        chance = random.Random(59)
        for _ in range(150):
            parts = some_whole_parts(chance, 3)
            works = Works(**parts)
            box = some_box(chance, works, 6)
            self.assertEqual(written(works, box), text_of(lines_by_hand(parts, box)))

    def test_what_is_told_can_be_changed(self):
        works = mill()
        works.bar_patterns().clear()
        works.bar_patterns()[0].clear()
        works.secret_patterns("idle").clear()
        self.assertEqual(works, mill())
        self.assertEqual(written(works, example_box()), written(mill(), example_box()))


class Read(Refusing):
    """[60] texts that are right."""

    def test_read_back(self):
        chance = random.Random(60)
        for _ in range(200):
            works = Works(**some_whole_parts(chance, 3))
            box = some_box(chance, works, 6)
            text = written(works, box)
            found = read_text(text)
            self.assertIs(type(found), tuple)
            self.assertEqual((found[0] == works, found[1] == box), (True, True))
            self.assertEqual([hand.steps for hand in found[0].hands], [hand.steps for hand in works.hands])
            self.assertEqual(written(*found), text)
            self.assertEqual(written(works, turned_box(chance, box)), text)

    def test_the_plant(self):
        self.assertEqual(read_text(PLANT), (plant(), example_box()))

    def test_lines_of_one_kind_exchanged(self):
        """Steps stay behind their hand; equal works and boxes come of all other orders within a kind."""
        chance = random.Random(61)
        works, box = read_text(text_of(LINES))
        for _ in range(60):
            lines = []
            ends = [0, 1, 3, 4, 6, 7, 8, 10, 12, 15, 16, 20]
            for first, last in zip(ends, ends[1:]):
                lines += chance.sample(LINES[first:last], last - first)
            self.assertEqual(read_text(text_of(lines)), (works, box))

    def test_items_in_any_order(self):
        lines = [line.replace("1=8 2=7", "2=7 1=8").replace("0 2", "2 0").replace("b c zz", "zz b c")
                 .replace("a=s b=s other=t", "other=t a=s b=s").replace("1=5 2=9", "2=9 1=5") for line in LINES]
        self.assertEqual(sum(one != other for one, other in zip(lines, LINES)), 5)
        self.assertEqual(read_text(text_of(lines)), read_text(text_of(LINES)))

    def test_lines_of_a_secret_apart(self):
        lines = [*LINES[:12], LINES[13], LINES[14], LINES[12], *LINES[15:]]
        self.assertEqual(read_text(text_of(lines)), read_text(text_of(LINES)))
        self.assertEqual(written(*read_text(text_of(lines))).split("\n")[12:15], [LINES[13], LINES[12], LINES[14]])

    def test_what_was_read(self):
        works, box = read_text(text_of(LINES))
        self.assertEqual(works, Works(
            [Hand(0, [(0, "a", 1), (1, "b", 0)]), Hand(5, [(5, "a", 6), (6, "c", 5)]), Hand(9, [(9, "d", 9)])],
            bars=[{0: 7}, {1: 8, 2: 7}], faults={"a": "wear", "b": "tear"},
            secrets={"hot": [{0: 1}, {1: 5, 2: 9}], "low": [{2: 1}]}, diligent=[0, 2],
        ))
        self.assertEqual(box, Box([
            Lock("grip", 1, ["a"], 1000), Lock("hold", 0, ["b", "c", "zz"], 7), Sensor("ear", 0, {"a": "hum"}, 1),
            Sensor("eye", 1, {"a": "s", "b": "s", "other": "t"}, 20),
        ]))

    def test_words_that_are_also_kinds(self):
        text = text_of([
            "hand 0", "step 0 step 0", "step 0 hand 0", "fault hand lock", "secret secret 0=4", "lock bar 0 1 step",
        ])
        self.assertEqual(written(*read_text(text)), text)

    def test_two_readings(self):
        first, second = read_text(PLANT), read_text(PLANT)
        self.assertEqual(first, second)
        self.assertIsNot(first[0], second[0])


class WrongTexts(Refusing):
    """[60] texts that are none, too long or empty."""

    def test_what_is_no_string(self):
        for thing in [*strange_things(), PLANT.encode(), PLANT.split("\n"), (PLANT,)]:
            if not isinstance(thing, str):
                self.refuses(BadText, -1, read_text, thing)

    def test_no_line_feed_at_the_end(self):
        for text in [
            "a", "hand 0", PLANT[:-1], PLANT + " ", "\nhand 0", "\n" * 300 + "a", PLANT + "\r", "x\n" * 200 + "y",
        ]:
            self.refuses(BadText, -1, read_text, text)

    def test_the_empty_text(self):
        self.refuses(BadText, 1, read_text, "")
        self.refuses(BadText, 1, read_text, "\n")
        self.refuses(BadText, 1, read_text, "\n" + PLANT)
        self.refuses(BadText, 14, read_text, PLANT + "\n")

    def test_200_lines_but_not_more(self):
        many = "hand 0\n" + "step 0 a 1\n" * 199
        self.refuses(BadSteps, -1, read_text, many)
        self.refuses(BadText, 0, read_text, many + "step 0 a 1\n")
        self.refuses(BadText, 1, read_text, "x\n" * 200)
        self.refuses(BadText, 0, read_text, "x\n" * 201)
        self.refuses(BadText, 1, read_text, "\n" * 200)
        self.refuses(BadText, 0, read_text, "\n" * 201)
        self.refuses(BadText, 200, read_text, many[:-11] + "step 0 A 1\n")
        self.refuses(BadText, 0, read_text, PLANT * 16)

    def test_other_ends_of_lines(self):
        for sign in ["\r\n", "\r", "\v", "\f", "\x1c", "\x85", "\u2028", " \n", "\t\n", "\x00\n"]:
            self.refuses(BadText, 1, read_text, PLANT.replace("\n", sign) + "\n")
            self.refuses(BadText, 7, read_text, PLANT.replace("=3\n", "=3" + sign) + ("" if sign[-1] == "\n" else "\n"))

    def test_long_lines(self):
        self.refuses(BadText, 2, read_text, "hand 0\n" + "a" * 10 ** 6 + "\n")
        self.refuses(BadText, 1, read_text, "hand " + "1" * 10 ** 5 + "\n")
        self.refuses(BadText, 1, read_text, " " * 10 ** 5 + "\n")


class WrongLines(Refusing):
    """[60] the number of the first wrong line."""

    def test_each_form_of_a_wrong_line_at_each_place(self):
        """A wrong line in the place of each line, and ahead of each."""
        self.assertIsNone(raised(read_text, text_of(LINES)))
        for at, line in enumerate(LINES):
            for wrong in WRONG[line.split(" ")[0]]:
                self.refuses(BadText, at + 1, read_text, text_of([*LINES[:at], wrong, *LINES[at + 1:]]))
                self.refuses(BadText, at + 1, read_text, text_of([*LINES[:at], wrong, *LINES[at:]]))
                self.refuses(BadText, at + 1, read_text, text_of([*LINES[:at], wrong, "also wrong"]))

    def test_wrong_lines_of_all_kinds_at_the_end(self):
        for rows in WRONG.values():
            for wrong in rows:
                self.refuses(BadText, 21, read_text, text_of([*LINES, wrong]))

    def test_blanks_and_other_signs(self):
        for at, line in enumerate(LINES):
            for wrong in [
                "", " ", line + " ", " " + line, line.replace(" ", "  ", 1), line.upper(), "x" + line, line + "\t",
                line + "\r", line.replace(" ", "\t", 1), line + "-", line + " -", line + ";", "#" + line, line + " #",
                line.replace(" ", "", 1), line.title(), line + "\u00a0", line + "=", line + " =", "none", line + "\x00",
            ]:
                self.refuses(BadText, at + 1, read_text, text_of([*LINES[:at], wrong, *LINES[at + 1:]]))

    def test_numbers_of_six_digits(self):
        """They are no wrong lines: the errors are those of what they tell."""
        for number in ("100", "999999", "100000"):
            self.refuses(BadStart, int(number), read_text, PLANT.replace("hand 0", "hand " + number))
            self.refuses(BadSteps, 0, read_text, PLANT.replace("start 1", "start " + number))
            self.refuses(BadSteps, 4, read_text, PLANT.replace("step 2 burst", f"step {number} burst"))
            self.refuses(BadBars, 0, read_text, PLANT.replace("0=3", "0=" + number))
            self.refuses(BadBars, 0, read_text, PLANT.replace("0=3", number + "=3"))
            self.refuses(BadDiligent, int(number), read_text, PLANT.replace("diligent 0", "diligent 0 " + number))
            self.refuses(BadPost, int(number), read_text, PLANT.replace("ear 0", "ear " + number))
        for number, at in [("1000000", 12), ("0999999", 12)]:
            self.refuses(BadText, at, read_text, PLANT.replace("eye 0 3", "eye 0 " + number))
        self.refuses(BadCost, 999999, read_text, PLANT.replace("eye 0 3", "eye 0 999999"))

    def test_lines_of_an_earlier_kind(self):
        """Each line once more behind each line of a later kind, and also at once behind all that come later."""
        for line in LINES:
            rank = KINDS.index(kind_of(line))
            for at, other in enumerate(LINES):
                if KINDS.index(kind_of(other)) > rank:
                    changed = [*LINES[:at + 1], line.replace("fault a", "fault c").replace("fault b", "fault d")]
                    self.refuses(BadText, at + 2, read_text, text_of([*changed, *LINES[at + 1:]]))

    def test_lines_that_are_moved_behind_a_later_kind(self):
        for place, line in list(enumerate(LINES))[8:]:
            rest = LINES[:place] + LINES[place + 1:]
            for at, other in enumerate(rest):
                if KINDS.index(kind_of(other)) > KINDS.index(kind_of(line)):
                    self.refuses(BadText, at + 2, read_text, text_of([*rest[:at + 1], line, *rest[at + 1:]]))

    def test_the_first_line_is_a_hand(self):
        for line in LINES:
            if not line.startswith("hand"):
                self.refuses(BadText, 1, read_text, text_of([line, *LINES]))
                self.refuses(BadText, 1, read_text, line + "\n")

    def test_a_second_fault_line(self):
        for line in ["fault a wear", "fault a tear", "fault b wear"]:
            self.refuses(BadText, 13, read_text, text_of([*LINES[:12], line, *LINES[12:]]))
        self.assertIsNone(raised(read_text, text_of([*LINES[:12], "fault c tear", *LINES[12:]])))

    def test_a_second_diligent_line(self):
        for line in ["diligent 0 2", "diligent 1"]:
            self.refuses(BadText, 17, read_text, text_of([*LINES[:16], line, *LINES[16:]]))

    def test_of_several_wrong_lines_the_first(self):
        lines = list(LINES)
        for at, wrong in [
            (18, "lock grip 1 1 a a"), (15, "diligent"), (11, "fault a tear"), (9, "bar 1=8 1=8"), (2, "step"),
        ]:
            lines[at] = wrong
            self.refuses(BadText, at + 1, read_text, text_of(lines))


class WrongThings(Refusing):
    """[60] then the errors of Hand, Works, Sensor or Lock, and Box."""

    def changed(self, *changes, lines=LINES):
        """The text with some lines replaced, at their indexes, each by a row of lines."""
        rows = [[line] for line in lines]
        for at, row in changes:
            rows[at] = row
        return text_of([line for row in rows for line in row])

    def test_hands(self):
        self.refuses(BadStart, 100, read_text, self.changed((3, ["hand 100"])))
        self.refuses(BadSteps, -1, read_text, self.changed((1, []), (2, [])))
        self.refuses(BadSteps, -1, read_text, self.changed((7, [])))
        self.refuses(BadSteps, 1, read_text, self.changed((2, ["step 0 a 1"])))
        self.refuses(BadSteps, 0, read_text, self.changed((4, ["step 5 a 100"])))
        self.refuses(BadSteps, 3, read_text, self.changed((7, [f"step 9 {word} 9" for word in "defg"])))
        self.refuses(BadSteps, -1, read_text, self.changed((7, [f"step {state} d 9" for state in range(21)])))
        self.refuses(BadHands, -1, read_text, self.changed((7, ["step 9 d 9", "hand 0", "step 0 e 0"])))

    def test_works(self):
        self.refuses(BadBars, 0, read_text, self.changed((8, ["bar 0=0"])))
        self.refuses(BadBars, 1, read_text, self.changed((9, ["bar 3=1"])))
        self.refuses(BadBars, -1, read_text, self.changed((8, ["bar 0=7"] * 6)))
        self.refuses(BadFaults, "zz", read_text, self.changed((11, ["fault zz tear"])))
        self.refuses(BadFaults, -1, read_text, self.changed((11, ["fault b tear", "fault c none"])))
        self.refuses(BadSecrets, "low", read_text, self.changed((14, ["secret low 3=1"])))
        self.refuses(BadSecrets, "low", read_text, self.changed((14, ["secret low 2=100"])))
        self.refuses(BadSecrets, "hot", read_text, self.changed((14, ["secret hot 0=5"] * 3)))
        found = raised(read_text, self.changed((14, [f"secret {name} 2=1" for name in ("low", "wet", "dry")])))
        self.assertIs(found.__class__, BadSecrets)
        self.assertEqual(found.value, {
            "hot": [{0: 1}, {1: 5, 2: 9}], "low": [{2: 1}], "wet": [{2: 1}], "dry": [{2: 1}],
        })
        self.refuses(BadDiligent, 3, read_text, self.changed((15, ["diligent 0 3"])))
        self.refuses(BadDiligent, 2, read_text, self.changed((15, ["diligent 2 0 2"])))
        words = [f"step {state} {word} 9" for state, word in zip((9, 9, 9, 8, 8, 8, 7), "defghij")]
        self.assertIsNone(raised(read_text, self.changed((7, words))))
        self.refuses(TooMany, 10, read_text, self.changed((7, [*words, "step 7 k 9"])))
        rings = [["hand 0", *[f"step {state} {word} {(state + 1) % 8}" for state in range(8)]] for word in "xy"]
        self.refuses(TooMany, 60, read_text, text_of([*rings[0], *rings[1], "lock grip 0 1 x"]))

    def test_instruments(self):
        self.refuses(BadPost, 2, read_text, self.changed((16, ["lock grip 2 1 a"])))
        self.refuses(BadCost, 0, read_text, self.changed((17, ["lock hold 1 0 a"])))
        self.refuses(BadCost, 1001, read_text, self.changed((19, ["sensor eye 1 1001 a=b"])))
        words = ["w" + letter for letter in "abcdefghijk"]
        self.refuses(BadWords, words, read_text, self.changed((17, ["lock hold 1 1 " + " ".join(words)])))
        sights = " ".join(word + "=s" for word in words)
        text = self.changed((18, ["sensor ear 1 1 " + sights]))
        self.refuses(BadSights, {word: "s" for word in words}, read_text, text)
        self.refuses(BadInstrument, -1, read_text, text_of(LINES[:16]))
        self.refuses(BadInstrument, 2, read_text, self.changed((18, ["sensor hold 0 1 a=hum"])))
        more = [f"lock {letter} 0 1 a" for letter in "abc"]
        self.refuses(BadInstrument, -1, read_text, text_of([*LINES, *more]))
        self.assertIsNone(raised(read_text, text_of([*LINES, *more[:2]])))

    def test_their_order(self):
        """Each error with all those that come behind it."""
        changes = [
            (0, ["hand 100"], BadStart, 100), (2, ["step 1 b 100"], BadSteps, 1), (3, ["hand 200"], BadStart, 200),
            (5, ["step 5 a 6"], BadSteps, 1), (8, ["bar 0=0"], BadBars, 0), (10, ["fault zz wear"], BadFaults, "zz"),
            (14, ["secret low 9=9"], BadSecrets, "low"), (15, ["diligent 4"], BadDiligent, 4),
            (16, ["lock grip 5 0 a"], BadPost, 5), (17, ["lock hold 0 0 a"], BadCost, 0),
            (18, ["sensor ear 0 2000 a=b"], BadCost, 2000), (19, ["sensor eye 3 1 a=b", "lock hold 0 1 a"], BadPost, 3),
        ]
        for at, (_, _, error, kept) in enumerate(changes):
            self.refuses(error, kept, read_text, self.changed(*[change[:2] for change in changes[at:]]))
        self.refuses(BadInstrument, 4, read_text, self.changed((19, [LINES[19], "lock hold 0 1 a"])))
        self.refuses(BadText, 20, read_text, self.changed((0, ["hand 100"]), (19, ["lock hold 0 1"])))

    def test_too_many_comes_ahead_of_instruments(self):
        rings = [["hand 0", *[f"step {state} {word} {(state + 1) % 8}" for state in range(8)]] for word in "xy"]
        self.refuses(TooMany, 60, read_text, text_of([*rings[0], *rings[1], "lock grip 7 0 x"]))
        self.refuses(BadDiligent, 2, read_text, text_of([*rings[0], *rings[1], "diligent 2", "lock grip 7 0 x"]))


if __name__ == "__main__":
    unittest.main()
