import copy
import random
import unittest

from tests.chance import some_box, some_set, some_whole_parts, some_wish, turned, turned_box, turned_set
from tests.nets import ALL_OF_3000, box_of_3000, works_of_3001
from tests.test_hiding import box_of_500, works_of_501
from tests.test_keeping import crane, crane_box, example_box
from tests.test_surely import SEEN_OF_1000, works_of_1000
from tests.test_works_told import plant
from tests.things import Refusing, raised, strange_things
from watchedworks.errors import BadSet, BadWish, TooMany
from watchedworks.foretelling import is_unwarned, is_warn_paper, unwarned, warn_paper, warned
from watchedworks.hiding import betrayal, hidden, hide_paper, is_betrayal, is_hide_paper
from watchedworks.keeping import conflict, is_conflict, is_keep_paper, keep_paper, keeps
from watchedworks.surely import escape, is_escape, is_sure_paper, sure_paper, surely
from watchedworks.telling import is_tell_paper, is_untold, tell_paper, told, untold
from watchedworks.wishes import against, fulfils, is_against, is_paper_of, is_wish, paper_of
from watchedworks.works import Works

OF_PLANT = [
    ("kept",), ("told", "wear", 0), ("told", "wear", 1000), ("warned", "wear", 0), ("warned", "wear", 1000),
    ("hidden", "hot", True), ("hidden", "hot", False), ("sure", (), ()), ("sure", ("slip",), ("stop",)),
    ("sure", ("burst", "slip", "start", "stop"), ("none",)), ("sure", ("a", "b"), ("aa", "ab", "b")),
]

# Of each form: whether it is fulfilled, its paper, and what is against it.
ASKED = {"kept": (keeps, keep_paper, conflict), "told": (told, tell_paper, untold),
         "warned": (warned, warn_paper, unwarned)}
JUDGED = {"kept": (is_keep_paper, is_conflict), "told": (is_tell_paper, is_untold),
          "warned": (is_warn_paper, is_unwarned)}


def asked(works, box, chosen, wish):
    """What the functions that a wish stands for tell: a flag, a paper, and what is against it."""
    form, *more = wish
    if form == "hidden":
        return tuple(call(works, box, chosen, more[0], joint=more[1]) for call in (hidden, hide_paper, betrayal))
    if form == "sure":
        return tuple(call(works, seen=more[0], wanted=more[1]) for call in (surely, sure_paper, escape))
    return tuple(call(works, box, chosen, *more) for call in ASKED[form])


def judged(works, box, chosen, wish, thing):
    """Whether a thing is a paper, and whether it is against it, by the judges that a wish stands for."""
    form, *more = wish
    if form == "hidden":
        return tuple(call(works, box, chosen, more[0], thing, joint=more[1]) for call in (is_hide_paper, is_betrayal))
    if form == "sure":
        return tuple(call(works, thing, seen=more[0], wanted=more[1]) for call in (is_sure_paper, is_escape))
    return tuple(call(works, box, chosen, *more, thing) for call in JUDGED[form])


def cases(seed, number):
    chance = random.Random(seed)
    for _ in range(number):
        works = Works(**some_whole_parts(chance))
        box = some_box(chance, works, 6)
        chosen = chance.choice([some_set(chance, box), box.names()])
        yield chance, works, box, chosen, some_wish(chance, works)


class Forms(unittest.TestCase):
    """[47] what is a wish."""

    def test_all_forms(self):
        for wish in OF_PLANT:
            self.assertIs(is_wish(plant(), wish), True, wish)

    def test_names_that_the_works_lacks(self):
        for wish in [("told", "heat", 0), ("told", "slip", 0), ("warned", "heat", 3), ("hidden", "wear", True),
                     ("hidden", "cold", False), ("told", "hot", 0), ("warned", "hot", 0)]:
            self.assertIs(is_wish(plant(), wish), False)
        bare = Works(plant().hands)
        self.assertEqual([is_wish(bare, wish) for wish in OF_PLANT], [
            wish[0] in ("kept", "sure") for wish in OF_PLANT
        ])

    def test_numbers(self):
        for form in ("told", "warned"):
            for number in (0, 1, 999, 1000):
                self.assertIs(is_wish(plant(), (form, "wear", number)), True)
            for number in (-1, 1001, True, False, 0.0, 1.0, "0", None, (0,), 10 ** 30):
                self.assertIs(is_wish(plant(), (form, "wear", number)), False)

    def test_flags(self):
        for flag in (0, 1, 0.0, None, "True", (True,), "jointly"):
            self.assertIs(is_wish(plant(), ("hidden", "hot", flag)), False)

    def test_rows_of_words(self):
        for row in [
            ["stop"], "stop", ("stop", "slip"), ("stop", "stop"), ("Stop",), ("",), ("abcdefghijk",), (1,), (None,),
            (("stop",),), None, {"stop"}, {"stop": 1}, (b"stop",), ("a", "c", "b"), ("a", "a", "b"), ("-",), ("a,b",),
        ]:
            self.assertIs(is_wish(plant(), ("sure", row, ())), False)
            self.assertIs(is_wish(plant(), ("sure", (), row)), False)
        many = tuple(sorted(one + other for one in "abcdefgh" for other in "abcdefgh"))
        self.assertIs(is_wish(plant(), ("sure", many, many)), True)

    def test_parts_left_out_put_in_and_replaced(self):
        for wish in OF_PLANT:
            for at in range(len(wish)):
                self.assertIs(is_wish(plant(), wish[:at] + wish[at + 1:]), False)
            for thing in ["kept", 0, None, (), True]:
                for at in range(len(wish) + 1):
                    self.assertIs(is_wish(plant(), wish[:at] + (thing,) + wish[at:]), False)
            for form in ["Kept", "keeps", "", "tell", "kept ", "telling", "surely", b"kept", None, ("kept",), 0]:
                self.assertIs(is_wish(plant(), (form, *wish[1:])), False)
            self.assertIs(is_wish(plant(), list(wish)), False)
            self.assertIs(is_wish(plant(), (wish,)), False)
            self.assertIs(is_wish(plant(), wish[0]), wish[0] is None)

    def test_strange_things(self):
        for thing in strange_things():
            self.assertIs(is_wish(plant(), thing), False)
            for wish in OF_PLANT:
                self.assertIs(is_wish(plant(), (thing, *wish[1:])), False)
                self.assertIs(is_wish(plant(), (*wish, thing)), False)
                if len(wish) > 1:
                    expected = wish[0] == "sure" and thing in ((), ("a",))
                    self.assertIs(is_wish(plant(), (wish[0], thing, wish[2])), expected)
                    expected = self.may_stand_last(wish[0], thing)
                    self.assertIs(is_wish(plant(), (wish[0], wish[1], thing)), expected)

    def may_stand_last(self, form, thing):
        if form == "hidden":
            return thing is True or thing is False
        if form == "sure":
            return isinstance(thing, tuple) and thing in ((), ("a",))
        return type(thing) is int and 0 <= thing <= 1000


class Compared(unittest.TestCase):
    """[47], [48] the functions that wishes stand for, and what more instruments do."""

    def test_the_functions_that_they_stand_for(self):
        found = {}
        for _, works, box, chosen, wish in cases(48, 600):
            flag, paper, thing = asked(works, box, chosen, wish)
            found[(wish[0], flag)] = found.get((wish[0], flag), 0) + 1
            self.assertIs(fulfils(works, box, chosen, wish), flag)
            self.assertEqual(paper_of(works, box, chosen, wish), paper)
            self.assertEqual(against(works, box, chosen, wish), thing)
            self.assertEqual((paper is None, thing is None), (not flag, flag))
        self.assertEqual(len(found), 10)
        self.assertGreater(min(found.values()), 4)

    def test_the_judges_that_they_stand_for(self):
        right = {}
        earlier = []
        for _, works, box, chosen, wish in cases(49, 250):
            things = [paper_of(works, box, chosen, wish), against(works, box, chosen, wish), *earlier[-6:], None, []]
            earlier += things[:2]
            for thing in things:
                expected = judged(works, box, chosen, wish, thing)
                self.assertIs(is_paper_of(works, box, chosen, wish, thing), expected[0])
                self.assertIs(is_against(works, box, chosen, wish, thing), expected[1])
                right[(wish[0], *expected)] = right.get((wish[0], *expected), 0) + 1
        self.assertEqual(len(right), 15)

    def test_papers_and_things_of_other_wishes(self):
        """Each wish with all papers and things of the others."""
        works, box, chosen = plant(), example_box(), ["eye", "valve"]
        things = [call(works, box, chosen, wish) for wish in OF_PLANT for call in (paper_of, against)]
        for wish in OF_PLANT:
            for thing in things:
                expected = judged(works, box, chosen, wish, thing)
                self.assertIs(is_paper_of(works, box, chosen, wish, thing), expected[0])
                self.assertIs(is_against(works, box, chosen, wish, thing), expected[1])

    def test_more_instruments(self):
        """[20], [47] they never hurt upward wishes, and never help downward ones."""
        less, more = 0, 0
        for chance, works, box, chosen, wish in cases(50, 400):
            few = [name for name in chosen if chance.random() < 0.6]
            one, other = fulfils(works, box, few, wish), fulfils(works, box, chosen, wish)
            if wish[0] == "hidden":
                less += one and not other
                self.assertTrue(one or not other)
            elif wish[0] == "sure":
                self.assertIs(one, other)
            else:
                more += other and not one
                self.assertTrue(other or not one)
        self.assertGreater(min(less, more), 4)

    def test_by_hand(self):
        expected = {
            (): [False, False, False, False, False, True, True, False, True],
            ("valve",): [True, False, False, False, False, True, True, False, True],
            ("ear", "valve"): [True, False, False, False, False, True, True, False, True],
            ("eye",): [False, True, True, False, False, True, True, False, True],
            ("ear", "eye", "valve"): [True, True, True, False, False, True, True, False, True],
        }
        for chosen, flags in expected.items():
            self.assertEqual([fulfils(plant(), example_box(), chosen, wish) for wish in OF_PLANT[:9]], flags)

    def test_a_paper_may_be_empty(self):
        works = Works(plant().hands, faults={"burst": "wear"}, bars=[{0: 3}])
        self.assertEqual(paper_of(works, example_box(), [], ("warned", "wear", 7)), [])
        self.assertIs(fulfils(works, example_box(), [], ("warned", "wear", 7)), True)
        self.assertIs(is_paper_of(works, example_box(), [], ("warned", "wear", 7), []), True)
        self.assertIsNone(against(works, example_box(), [], ("warned", "wear", 7)))


class Refused(Refusing):
    """[17], [48] BadSet, then BadWish, then TooMany, but for the judges."""

    def calls(self, works, box):
        return [
            lambda chosen, wish: fulfils(works, box, chosen, wish),
            lambda chosen, wish: paper_of(works, box, chosen, wish),
            lambda chosen, wish: against(works, box, chosen, wish),
            lambda chosen, wish: is_paper_of(works, box, chosen, wish, None),
            lambda chosen, wish: is_against(works, box, chosen, wish, None),
        ]

    def asked(self):
        """Works, boxes and wishes; the last ones have too many triples, estimates or marked standings."""
        return [
            (plant(), example_box(), OF_PLANT),
            (works_of_3001((), [(0, "f", 0)], faults={"f": "wear"}), box_of_3000(),
             [("kept",), ("told", "wear", 0), ("warned", "wear", 0)]),
            (works_of_501({"hot": [{0: 7}]}), box_of_500(), [("hidden", "hot", False), ("hidden", "hot", True)]),
            (works_of_1000([(0, "y", 9)]), crane_box(), [("sure", tuple(SEEN_OF_1000), ())]),
        ]

    def test_sets_come_first(self):
        for works, box, wishes in self.asked():
            for call in self.calls(works, box):
                for wish in [*wishes, None, ("none",)]:
                    self.refuses(BadSet, box.names()[0], call, box.names()[:1] * 2, wish)
                    self.refuses(BadSet, "none", call, ["none"], wish)
                for thing in strange_things():
                    if not isinstance(thing, (list, tuple)):
                        self.refuses(BadSet, thing, call, thing, None)
                    self.refuses(BadSet, thing, call, [box.names()[0], thing], wishes[0])

    def test_wishes_come_next(self):
        for works, box, wishes in self.asked():
            for call in self.calls(works, box):
                for thing in [*strange_things(), *wishes[0], list(wishes[0]), ("told", "none", 0), (*wishes[0], None),
                              ("hidden", "none", True), ("hidden", "hot", 1), ("told", "wear", True), "kept",
                              ("sure", ["stop"], ()), ("sure", ("b", "a"), ())]:
                    self.refuses(BadWish, thing, call, box.names(), thing)

    def test_too_many_comes_last(self):
        for (works, box, wishes), limit in zip(self.asked()[1:], (3000, 500, 1000)):
            for wish in wishes:
                for call in self.calls(works, box)[:3]:
                    self.refuses(TooMany, limit, call, box.names(), wish)
                for judge in self.calls(works, box)[3:]:
                    self.assertIs(judge(box.names(), wish), False)

    def test_only_the_set_that_is_asked_counts(self):
        works, box, wishes = self.asked()[1]
        for wish in wishes:
            self.refuses(TooMany, 3000, fulfils, works, box, ALL_OF_3000, wish)
            self.assertIsNone(raised(fulfils, works, box, ["left"], wish))


class Same(unittest.TestCase):
    """[3] equal arguments give equal values, and nothing that is passed changes."""

    def test_equal_arguments(self):
        chance = random.Random(51)
        for _ in range(120):
            parts = some_whole_parts(chance)
            works = Works(**parts)
            box = some_box(chance, works, 6)
            chosen, wish = some_set(chance, box), some_wish(chance, works)
            other = (turned(chance, parts), turned_box(chance, box), turned_set(chance, chosen))
            for call in (fulfils, paper_of, against):
                self.assertEqual(call(works, box, chosen, wish), call(*other, wish))

    def test_nothing_passed_is_changed(self):
        chosen = ["rope", "far"]
        paper = paper_of(crane(), crane_box(), chosen, ("kept",))
        before = copy.deepcopy((chosen, paper))
        self.assertIs(is_paper_of(crane(), crane_box(), chosen, ("kept",), paper), True)
        self.assertEqual((chosen, paper), before)
        paper.clear()
        self.assertEqual(paper_of(crane(), crane_box(), chosen, ("kept",)), before[1])


if __name__ == "__main__":
    unittest.main()
