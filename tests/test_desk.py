import random
import unittest

from tests.chance import some_box, some_whole_parts, some_wish, turned, turned_box
from tests.judging import sets_of
from tests.nets import ALL_OF_3000, box_of_3000, works_of_3001
from tests.test_goodsets import SEEN, WISHES, lights, lights_box
from tests.test_keeping import example_box
from tests.test_wishes import OF_PLANT
from tests.test_works_told import plant
from tests.things import Refusing, is_plain_integer, raised, strange_things
from watchedworks.desk import Desk
from watchedworks.errors import BadIndex, BadName, BadSet, BadWish, NothingDone, TooMany, WorksError
from watchedworks.goodsets import cheapest, why_not
from watchedworks.wishes import fulfils, is_against
from watchedworks.works import Works


class Model:
    """What a desk is to be: a set, wishes, and what they were ahead of each deed."""

    def __init__(self, works, box):
        self.works, self.box, self.chosen, self.wishes, self.done = works, box, (), [], []

    def do(self, chosen, wishes):
        self.done.append((self.chosen, self.wishes))
        self.chosen, self.wishes = tuple(sorted(chosen)), wishes

    def put(self, name):
        if name not in self.box.names() or name in self.chosen:
            return BadName
        self.do([*self.chosen, name], self.wishes)

    def take(self, name):
        if name not in self.chosen:
            return BadName
        self.do(set(self.chosen) - {name}, self.wishes)

    def choose(self, chosen):
        if len(set(chosen)) < len(chosen) or set(chosen) - set(self.box.names()):
            return BadSet
        self.do(chosen, self.wishes)

    def wish(self, wish):
        if wish in self.wishes or len(self.wishes) == 6 or wish[0] == "none":
            return BadWish
        self.do(self.chosen, [*self.wishes, wish])

    def forget(self, at):
        if not 0 <= at < len(self.wishes):
            return BadIndex
        self.do(self.chosen, self.wishes[:at] + self.wishes[at + 1:])

    def undo(self):
        if not self.done:
            return NothingDone
        self.chosen, self.wishes = self.done.pop()


def some_deed(chance, works, box):
    """The name of a deed and its arguments; some of them are wrong."""
    names = [*box.names(), "none"]
    deed = chance.choice(["put", "put", "take", "choose", "wish", "wish", "wish", "forget", "undo", "undo"])
    if deed in ("put", "take"):
        return deed, [chance.choice(names)]
    if deed == "choose":
        return deed, [chance.sample(names, chance.randrange(len(names)))]
    if deed == "wish":
        return deed, [some_wish(chance, works) if chance.random() < 0.9 else ("none",)]
    return deed, [chance.randrange(-1, 6)] if deed == "forget" else []


def look(desk):
    """All that tells how a desk stands, but for what can be undone."""
    return (desk.chosen, desk.wishes())


def undone(desk):
    """What a desk is taken back to, step by step; the desk itself stays as it is."""
    def take_back(inner):
        found = [look(inner)]
        while raised(inner.undo) is None:
            found.append(look(inner))
        return found

    return desk.trying(take_back)


class Deeds(Refusing):
    """[57] deeds, one by one."""

    def test_at_first(self):
        works, box = plant(), example_box()
        desk = Desk(works, box)
        self.assertIs(desk.works, works)
        self.assertIs(desk.box, box)
        self.assertEqual((desk.chosen, desk.wishes(), desk.fulfilled()), ((), [], []))
        self.assertEqual((desk.is_good(), desk.price(), desk.lacks(), desk.better()), (True, 0, None, (0, [()])))
        self.refuses_nothing_done(desk)

    def refuses_nothing_done(self, desk):
        error = raised(desk.undo)
        self.assertIs(error.__class__, NothingDone)
        self.assertEqual(vars(error), {})

    def test_put_and_take(self):
        desk = Desk(plant(), example_box())
        self.assertIsNone(desk.put("valve"))
        self.assertIsNone(desk.put("ear"))
        self.assertEqual(desk.chosen, ("ear", "valve"))
        self.assertIs(type(desk.chosen), tuple)
        self.refuses(BadName, "ear", desk.put, "ear")
        self.refuses(BadName, "none", desk.put, "none")
        self.refuses(BadName, "eye", desk.take, "eye")
        self.assertIsNone(desk.take("valve"))
        self.refuses(BadName, "valve", desk.take, "valve")
        self.assertEqual(desk.chosen, ("ear",))
        self.assertEqual(undone(desk), [(chosen, []) for chosen in [("ear",), ("ear", "valve"), ("valve",), ()]])

    def test_names_of_any_kind(self):
        desk = Desk(plant(), example_box())
        desk.choose(["ear", "eye"])
        for thing in [*strange_things(), ["ear"], ("ear",), "Ear", "ear ", b"ear", "slip"]:
            self.refuses(BadName, thing, desk.put, thing)
            self.refuses(BadName, thing, desk.take, thing)
        self.assertEqual(undone(desk), [(("ear", "eye"), []), ((), [])])

    def test_choose(self):
        desk = Desk(plant(), example_box())
        chosen = ["valve", "ear"]
        self.assertIsNone(desk.choose(chosen))
        chosen.clear()
        self.assertEqual(desk.chosen, ("ear", "valve"))
        for thing in strange_things():
            if not isinstance(thing, (list, tuple)):
                self.refuses(BadSet, thing, desk.choose, thing)
            self.refuses(BadSet, thing, desk.choose, ["eye", thing])
        self.refuses(BadSet, "eye", desk.choose, ("eye", "eye"))
        self.assertEqual(desk.chosen, ("ear", "valve"))
        self.assertIsNone(desk.choose(()))
        self.assertEqual(desk.chosen, ())

    def test_a_deed_that_leaves_all_as_it_was(self):
        desk = Desk(plant(), example_box())
        self.assertIsNone(desk.choose([]))
        desk.put("eye")
        desk.choose(("eye",))
        desk.choose(["eye"])
        self.assertEqual(undone(desk), [(chosen, []) for chosen in [("eye",), ("eye",), ("eye",), (), ()]])
        for _ in range(4):
            self.assertIsNone(desk.undo())
        self.refuses_nothing_done(desk)
        self.assertEqual(desk.chosen, ())

    def test_wish_and_forget(self):
        desk = Desk(plant(), example_box())
        for wish in OF_PLANT[:6]:
            self.assertIsNone(desk.wish(wish))
        self.assertEqual(desk.wishes(), OF_PLANT[:6])
        self.refuses(BadWish, OF_PLANT[6], desk.wish, OF_PLANT[6])
        self.assertIsNone(desk.forget(1))
        self.assertEqual(desk.wishes(), [OF_PLANT[0], *OF_PLANT[2:6]])
        self.refuses(BadWish, OF_PLANT[4], desk.wish, OF_PLANT[4])
        desk.wish(OF_PLANT[1])
        self.assertEqual(desk.wishes(), [OF_PLANT[0], *OF_PLANT[2:6], OF_PLANT[1]])
        desk.forget(5)
        desk.forget(0)
        self.assertEqual(desk.wishes(), OF_PLANT[2:6])
        self.assertEqual(len(undone(desk)), 11)

    def test_wrong_wishes_and_indexes(self):
        desk = Desk(plant(), example_box())
        for thing in [*strange_things(), ["kept"], ("told", "none", 0), ("told", "wear", True), ("hidden", "hot", 1),
                      ("sure", ["stop"], ()), ("kept", None)]:
            self.refuses(BadWish, thing, desk.wish, thing)
        for thing in [*strange_things(), 0, 1, -1]:
            self.refuses(BadIndex, thing, desk.forget, thing)
        desk.wish(("kept",))
        desk.wish(("told", "wear", 0))
        for thing in [*strange_things(), 2, -1, -2, True, False, 0.0, 1.0, "0", None]:
            if not (is_plain_integer(thing) and thing in (0, 1)):
                self.refuses(BadIndex, thing, desk.forget, thing)
        self.assertEqual(desk.wishes(), [("kept",), ("told", "wear", 0)])
        self.assertEqual(len(undone(desk)), 3)

    def test_what_is_told_belongs_to_the_caller(self):
        desk = Desk(plant(), example_box())
        desk.wish(("kept",))
        desk.wishes().clear()
        desk.fulfilled().clear()
        desk.better()[1].clear()
        self.assertEqual((desk.wishes(), desk.fulfilled(), desk.better()), ([("kept",)], [False], (1, [("valve",)])))

    def test_properties_are_not_set(self):
        desk = Desk(plant(), example_box())
        for name in ("works", "box", "chosen"):
            with self.assertRaises(AttributeError):
                setattr(desk, name, ())

    def test_two_desks(self):
        works, box = plant(), example_box()
        one, other = Desk(works, box), Desk(works, box)
        one.put("ear")
        one.wish(("kept",))
        self.assertEqual((look(other), undone(other)), (((), []), [((), [])]))


class Drawn(Refusing):
    """[57], [58] rows of drawn deeds against a model."""

    def check(self, desk, model):
        self.assertEqual(look(desk), (model.chosen, model.wishes))

    def do(self, desk, model, deed, arguments):
        expected = getattr(model, deed)(*arguments)
        error = raised(getattr(desk, deed), *arguments)
        self.assertIs(None if error is None else error.__class__, expected)
        self.check(desk, model)
        return expected

    def test_drawn_deeds(self):
        chance = random.Random(57)
        wrong = {}
        for _ in range(60):
            works = Works(**some_whole_parts(chance))
            box = some_box(chance, works, 4)
            desk, model = Desk(works, box), Model(works, box)
            for _ in range(chance.randrange(10, 60)):
                error = self.do(desk, model, *some_deed(chance, works, box))
                wrong[error] = wrong.get(error, 0) + 1
            past = [(chosen, wishes) for chosen, wishes in model.done]
            self.assertEqual(undone(desk), [look(desk), *past[::-1]])
            while model.done:
                self.do(desk, model, "undo", [])
            self.do(desk, model, "undo", [])
            self.assertEqual(look(desk), ((), []))
        self.assertEqual(set(wrong), {None, BadName, BadSet, BadWish, BadIndex, NothingDone})

    def test_drawn_trials(self):
        chance = random.Random(58)
        self.ended = {True: 0, False: 0}
        for _ in range(60):
            works = Works(**some_whole_parts(chance))
            box = some_box(chance, works, 4)
            desk, model = Desk(works, box), Model(works, box)
            for _ in range(6):
                self.do_some(chance, desk, model)
                self.draw_a_trial(chance, desk, model, 3)
                self.check(desk, model)
            self.assertEqual(undone(desk), [look(desk), *[pair for pair in model.done[::-1]]])
        self.assertGreater(min(self.ended.values()), 100)

    def do_some(self, chance, desk, model):
        for _ in range(chance.randrange(6)):
            self.do(desk, model, *some_deed(chance, desk.works, desk.box))

    def draw_a_trial(self, chance, desk, model, depth):
        """A trial with deeds and trials in it; it ends with or without an error."""
        before = (model.chosen, model.wishes, list(model.done))
        fails = chance.random() < 0.5
        self.ended[fails] += 1
        try:
            with desk.trial() as inner:
                self.assertIs(inner, desk)
                self.do_some(chance, desk, model)
                if depth and chance.random() < 0.6:
                    self.draw_a_trial(chance, desk, model, depth - 1)
                self.do_some(chance, desk, model)
                if chance.random() < 0.3:
                    while model.done:
                        self.do(desk, model, "undo", [])
                if fails:
                    desk.put("none")
        except BadName as error:
            self.assertEqual(error.value, "none")
        else:
            self.assertFalse(fails)
        model.chosen, model.wishes, model.done = before
        self.check(desk, model)


class Trials(Refusing):
    """[58] trials."""

    def desk(self):
        desk = Desk(plant(), example_box())
        desk.put("eye")
        desk.wish(("kept",))
        return desk

    def test_a_trial_that_takes_back_deeds_from_ahead_of_it(self):
        desk = self.desk()
        with desk.trial() as inner:
            self.assertIs(inner, desk)
            inner.undo()
            inner.undo()
            self.assertIs(raised(inner.undo).__class__, NothingDone)
            inner.choose(["valve", "ear"])
            self.assertEqual(look(desk), (("ear", "valve"), []))
        self.assertEqual(look(desk), (("eye",), [("kept",)]))
        self.assertEqual(len(undone(desk)), 3)
        desk.undo()
        self.assertEqual(look(desk), (("eye",), []))

    def test_a_trial_that_ends_with_an_error(self):
        desk = self.desk()
        for error in (KeyError("a"), ValueError(), RuntimeError(), WorksError(), StopIteration(), KeyboardInterrupt()):
            with self.assertRaises(type(error)) as caught:
                with desk.trial() as inner:
                    inner.put("valve")
                    inner.undo()
                    inner.undo()
                    raise error
            self.assertIs(caught.exception, error)
            self.assertEqual(len(undone(desk)), 3)
            self.assertEqual(look(desk), (("eye",), [("kept",)]))

    def test_trials_that_end_by_return_and_break(self):
        desk = self.desk()

        def ends(desk):
            with desk.trial():
                desk.take("eye")
                return desk.chosen

        self.assertEqual(ends(desk), ())
        for name in ("ear", "valve"):
            with desk.trial() as inner:
                inner.put(name)
                break
        self.assertEqual(len(undone(desk)), 3)

    def test_a_trial_begins_with_its_block(self):
        desk = self.desk()
        trial = desk.trial()
        desk.put("valve")
        with trial as inner:
            inner.undo()
            inner.forget(0)
        self.assertEqual(look(desk), (("eye", "valve"), [("kept",)]))

    def test_trials_within_trials(self):
        desk = self.desk()
        with desk.trial() as outer:
            outer.put("ear")
            with outer.trial() as inner:
                inner.undo()
                inner.undo()
                self.assertEqual(look(desk), (("eye",), []))
            self.assertEqual(look(desk), (("ear", "eye"), [("kept",)]))
            outer.put("valve")
            with self.assertRaises(KeyError):
                with outer.trial() as inner:
                    inner.choose([])
                    raise KeyError("a")
            self.assertEqual(look(desk), (("ear", "eye", "valve"), [("kept",)]))
            self.assertEqual(len(undone(desk)), 5)
        self.assertEqual(len(undone(desk)), 3)

    def test_trying_passes_on_what_the_deed_returns(self):
        desk = self.desk()
        result = ["anything"]

        def deed(inner):
            self.assertIs(inner, desk)
            inner.put("valve")
            inner.wish(("told", "wear", 0))
            self.assertEqual((inner.is_good(), inner.price()), (True, 4))
            return result

        self.assertIs(desk.trying(deed), result)
        self.assertIsNone(desk.trying(lambda inner: None))
        self.assertEqual(desk.trying(lambda inner: inner.better()), (1, [("valve",)]))
        self.assertEqual(desk.trying(Desk.price), 3)
        self.assertEqual(look(desk), (("eye",), [("kept",)]))
        self.assertEqual(len(undone(desk)), 3)

    def test_trying_passes_on_what_the_deed_raises(self):
        desk = self.desk()
        error = KeyError("a")

        def deed(inner):
            inner.undo()
            inner.undo()
            raise error

        with self.assertRaises(KeyError) as caught:
            desk.trying(deed)
        self.assertIs(caught.exception, error)
        self.refuses(BadName, "none", desk.trying, lambda inner: inner.put("none"))
        self.assertEqual(len(undone(desk)), 3)

    def test_trying_within_trying(self):
        desk = self.desk()

        def outer(inner):
            inner.put("valve")
            found = inner.trying(lambda again: (again.take("valve"), again.chosen)[1])
            return found, inner.chosen

        self.assertEqual(desk.trying(outer), (("eye",), ("eye", "valve")))
        self.assertEqual(desk.chosen, ("eye",))

    def test_many_deeds(self):
        desk = self.desk()
        for _ in range(5000):
            desk.choose(["ear"])
        with desk.trial():
            for _ in range(5002):
                desk.undo()
            self.assertIs(raised(desk.undo).__class__, NothingDone)
        self.assertEqual(look(desk), (("ear",), [("kept",)]))


class Told(Refusing):
    """[58] what a desk tells, with wishes and without."""

    def test_the_plant(self):
        desk = Desk(plant(), example_box())
        for wish in WISHES:
            desk.wish(wish)
        self.assertEqual((desk.fulfilled(), desk.is_good(), desk.price()), ([False, False, True], False, 0))
        self.assertEqual(desk.lacks(), why_not(plant(), example_box(), WISHES, ()))
        self.assertEqual(desk.better(), (4, [("eye", "valve")]))
        desk.choose(["valve", "ear"])
        self.assertEqual((desk.fulfilled(), desk.is_good(), desk.price()), ([True, False, True], False, 3))
        at, thing = desk.lacks()
        self.assertIs(is_against(plant(), example_box(), desk.chosen, WISHES[at], thing), True)
        desk.put("eye")
        self.assertEqual((desk.fulfilled(), desk.is_good(), desk.price(), desk.lacks()), ([True] * 3, True, 6, None))

    def test_without_wishes(self):
        desk = Desk(plant(), example_box())
        for chosen in sets_of(example_box()):
            desk.choose(chosen)
            self.assertEqual((desk.fulfilled(), desk.is_good(), desk.lacks()), ([], True, None))
            self.assertEqual((desk.price(), desk.better()), (example_box().price(chosen), (0, [()])))

    def test_all_sets(self):
        desk = Desk(lights(), lights_box())
        for wishes in [SEEN, [*SEEN, ("kept",), ("warned", "alarm", 0)], [("sure", ("red",), ("off",))]]:
            while desk.wishes():
                desk.forget(0)
            for wish in wishes:
                desk.wish(wish)
            for chosen in sets_of(lights_box())[::3]:
                desk.choose(chosen[::-1])
                flags = [fulfils(lights(), lights_box(), chosen, wish) for wish in wishes]
                self.assertEqual((desk.fulfilled(), desk.is_good()), (flags, all(flags)))
                self.assertEqual(desk.lacks(), why_not(lights(), lights_box(), wishes, chosen))
            self.assertEqual(desk.better(), cheapest(lights(), lights_box(), wishes))

    def test_no_better_set(self):
        desk = Desk(plant(), example_box())
        desk.wish(("warned", "wear", 0))
        self.assertIsNone(desk.better())

    def test_too_many(self):
        """[52] as of the functions that they stand for: just better looks at all sets."""
        desk = Desk(works_of_3001(), box_of_3000())
        desk.wish(("sure", (), ()))
        desk.wish(("kept",))
        self.assertEqual((desk.fulfilled(), desk.is_good(), desk.lacks()[0]), ([False, True], False, 0))
        self.refuses(TooMany, 3000, desk.better)
        desk.choose(ALL_OF_3000)
        for call in (desk.fulfilled, desk.is_good, desk.lacks, desk.better):
            self.refuses(TooMany, 3000, call)
        self.assertEqual(desk.price(), 4)
        self.assertEqual(look(desk), (tuple(ALL_OF_3000), [("sure", (), ()), ("kept",)]))

    def test_equal_works_and_boxes(self):
        """[61]"""
        chance = random.Random(59)
        for _ in range(25):
            parts = some_whole_parts(chance)
            works = Works(**parts)
            box = some_box(chance, works, 4)
            one, other = Desk(works, box), Desk(turned(chance, parts), turned_box(chance, box))
            for _ in range(12):
                deed, arguments = some_deed(chance, works, box)
                errors = [raised(getattr(desk, deed), *arguments) for desk in (one, other)]
                self.assertEqual(errors[0].__class__, errors[1].__class__)
            for told in (look, Desk.fulfilled, Desk.is_good, Desk.price, Desk.lacks, Desk.better, undone):
                self.assertEqual(told(one), told(other))


if __name__ == "__main__":
    unittest.main()
