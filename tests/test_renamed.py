"""[61] Works whose words are renamed, together with those of the instruments, the wishes and the runs.

And what equal works and boxes tell of themselves; of the other Parts their own tests ask this.
"""

import random
import unittest

from tests import workings
from tests.chance import some_box, some_set, some_whole_parts, some_wish, some_wishes, turned, turned_box, turned_set
from tests.judging import sets_of
from watchedworks.boxes import Box, seen
from watchedworks.desk import Desk
from watchedworks.foretelling import doomed, lead, warn_paper, warned
from watchedworks.goodsets import (
    cheapest, good_sets, greatest_good, is_good, least_good, least_robust, robust_sets, spare,
)
from watchedworks.guards import Guard
from watchedworks.hiding import estimate_behind, estimates, hidden, hide_paper
from watchedworks.instruments import Lock, Sensor
from watchedworks.keeping import keep_paper, keeps
from watchedworks.runs import end_of, is_kept_run, is_run, way_to, words_of
from watchedworks.surely import sure_paper, surely
from watchedworks.telling import late, tell_paper, told
from watchedworks.texts import read_text, written
from watchedworks.verdicts import by_verdict, is_verdict, verdict
from watchedworks.wishes import against, fulfils, is_against, is_paper_of, is_wish, paper_of
from watchedworks.works import Works

READERS = (0, 1, "both")


def some_names(chance, words):
    """New names for these words; some of them change places."""
    new = chance.sample([*words, "aa", "mm", "zz", "q", "k"], len(words))
    return dict(zip(words, new))


def renamed_box(box, names):
    instruments = []
    for one in [box[name] for name in box.names()]:
        if isinstance(one, Sensor):
            sights = {names[word]: sight for word, sight in one.sights.items()}
            instruments.append(Sensor(one.name, one.post, sights, one.cost))
        else:
            instruments.append(Lock(one.name, one.post, [names[word] for word in one.words], one.cost))
    return Box(instruments)


def renamed_wish(wish, names):
    if wish[0] != "sure":
        return wish
    return (wish[0], *[tuple(sorted(names[word] for word in row)) for row in wish[1:]])


def renamed_run(run, names):
    return tuple((names[word], standing) for word, standing in run)


def renamed_thing(wish, thing, names):
    """What is against a wish, with its words renamed."""
    def runs(row):
        return tuple(None if run is None else renamed_run(run, names) for run in row)

    if wish[0] == "kept":
        word, run, others = thing
        return (names[word], renamed_run(run, names), runs(others))
    if wish[0] == "told":
        return (renamed_run(thing[0], names), runs(thing[1]))
    if wish[0] == "warned":
        return (renamed_run(thing[0], names), thing[1], runs(thing[2]))
    if wish[0] == "hidden":
        return (thing[0], renamed_run(thing[1], names))
    return runs(thing)


def renamed_paper(wish, paper, names):
    """A paper of a wish; just in that of a sure wish there are flags, one for each seen word, ascending."""
    if wish[0] != "sure":
        return paper
    order = sorted(wish[1], key=lambda word: names[word])

    def marked(one):
        return (one[0], tuple(one[1][wish[1].index(word)] for word in order))

    return ([marked(one) for one in paper[0]], {marked(one): rank for one, rank in paper[1].items()})


def cases(seed, number):
    """Works, boxes and sets, the same with other words, and the names of these."""
    chance = random.Random(seed)
    for _ in range(number):
        works = Works(**some_whole_parts(chance))
        box = some_box(chance, works, 6)
        names = some_names(chance, [*works.words, "other"])
        other = works.renamed({word: names[word] for word in works.words})
        chosen = chance.choice([some_set(chance, box), box.names()])
        yield chance, (works, box, chosen), (other, renamed_box(box, names), chosen), names


class Renamed(unittest.TestCase):
    def test_standings_moves_and_runs(self):
        for chance, (works, _, _), (other, _, _), names in cases(611, 40):
            self.assertEqual(works.standings(), other.standings())
            self.assertEqual(works.kept(), other.kept())
            for standing in works.standings():
                self.assertEqual(sorted(renamed_run(works.moves(standing), names)), other.moves(standing))
                self.assertEqual(sorted(renamed_run(works.kept_moves(standing), names)), other.kept_moves(standing))
            for word in works.words:
                self.assertEqual(works.fault_of(word), other.fault_of(names[word]))
            runs = workings.runs_up_to(works, 3, works.moves)
            for run in chance.sample(runs, min(len(runs), 20)):
                self.assertIs(is_run(other, renamed_run(run, names)), True)
                self.assertIs(is_kept_run(works, run), is_kept_run(other, renamed_run(run, names)))

    def test_sights_and_guards(self):
        for chance, (works, box, chosen), (other, other_box, _), names in cases(612, 40):
            self.assertEqual(box.price(chosen), other_box.price(chosen))
            one, two = Guard(works, box, chosen), Guard(other, other_box, chosen)
            runs = workings.runs_up_to(works, 3, works.moves)
            for run in chance.sample(runs, min(len(runs), 20)):
                again = renamed_run(run, names)
                self.assertEqual(one.stopped(run), two.stopped(again))
                for reader in READERS:
                    sights = seen(works, box, chosen, reader, run)
                    self.assertEqual(sights, seen(other, other_box, chosen, reader, again))
                    self.assertEqual(
                        estimate_behind(works, box, chosen, reader, sights),
                        estimate_behind(other, other_box, chosen, reader, sights),
                    )
                    if reader != "both":
                        self.assertEqual(one.estimate(reader, sights), two.estimate(reader, sights))
                        held = sorted(names[word] for word in one.held(reader, sights))
                        self.assertEqual(held, two.held(reader, sights))

    def test_keeping_telling_and_foretelling(self):
        for _, one, other, _ in cases(613, 80):
            self.assertEqual(keeps(*one), keeps(*other))
            self.assertEqual(keep_paper(*one), keep_paper(*other))
            for fault in one[0].faults:
                self.assertEqual(doomed(one[0], fault), doomed(other[0], fault))
                for call in (late, lead):
                    self.assertEqual(call(*one, fault), call(*other, fault))
                for number in (0, 1, 3):
                    for call in (told, warned, warn_paper):
                        self.assertEqual(call(*one, fault, number), call(*other, fault, number))
                    papers = [tell_paper(*asked, fault, number) for asked in (one, other)]
                    if papers[0] is None:
                        self.assertIsNone(papers[1])
                    else:
                        self.assertEqual(papers[0][0], papers[1][0])
                        self.assertEqual(list(papers[0][1]), list(papers[1][1]))

    def test_hiding(self):
        for _, one, other, _ in cases(614, 80):
            for reader in READERS:
                self.assertEqual(estimates(*one, reader), estimates(*other, reader))
            for secret in one[0].secrets:
                for joint in (False, True):
                    for call in (hidden, hide_paper):
                        self.assertEqual(call(*one, secret, joint=joint), call(*other, secret, joint=joint))

    def test_surely(self):
        for chance, (works, _, _), (other, _, _), names in cases(615, 150):
            words = list(names)
            seen_words = chance.sample(words, min(len(words), chance.randrange(3)))
            wanted = chance.sample(words, min(len(words), chance.randrange(4)))
            again = {"seen": [names[word] for word in seen_words], "wanted": [names[word] for word in wanted]}
            self.assertEqual(surely(works, seen=seen_words, wanted=wanted), surely(other, **again))
            paper = sure_paper(works, seen=seen_words, wanted=wanted)
            if paper is not None:
                wish = ("sure", tuple(sorted(seen_words)), ())
                expected, found = renamed_paper(wish, paper, names), sure_paper(other, **again)
                self.assertEqual(sorted(expected[0]), found[0])
                self.assertEqual(sorted(expected[1]), list(found[1]))

    def test_wishes_with_papers_and_things(self):
        """What is right of one is, renamed, right of the other."""
        told_of = set()
        for chance, one, other, names in cases(616, 150):
            wish = some_wish(chance, one[0])
            again = renamed_wish(wish, names)
            self.assertIs(is_wish(other[0], again), True)
            flag = fulfils(*one, wish)
            told_of.add((wish[0], flag))
            self.assertIs(fulfils(*other, again), flag)
            if flag:
                paper = renamed_paper(wish, paper_of(*one, wish), names)
                self.assertIs(is_paper_of(*other, again, paper), True)
            else:
                thing = renamed_thing(wish, against(*one, wish), names)
                self.assertIs(is_against(*other, again, thing), True)
        self.assertEqual(len(told_of), 10)

    def test_good_sets_and_verdicts(self):
        good = 0
        for chance, (works, box, _), (other, other_box, _), names in cases(617, 120):
            if len(works.kept()) > 6 or len(box) > 4:
                continue
            wishes = some_wishes(chance, works, box)
            again = [renamed_wish(wish, names) for wish in wishes]
            found = list(good_sets(works, box, wishes))
            good += len(found)
            self.assertEqual(found, list(good_sets(other, other_box, again)))
            for call in (least_good, greatest_good, cheapest, robust_sets, least_robust):
                self.assertEqual(call(works, box, wishes), call(other, other_box, again))
            one, two = verdict(works, box, wishes), verdict(other, other_box, again)
            self.assertEqual([[item[0] for item in rows] for rows in one], [[item[0] for item in rows] for rows in two])
            for at in (1, 3):
                self.assertEqual([item[1] for item in one[at]], [item[1] for item in two[at]])
            self.assertIs(is_verdict(other, other_box, again, self.renamed_verdict(wishes, one, names)), True)
            for chosen in sets_of(box):
                self.assertIs(is_good(works, box, wishes, chosen), is_good(other, other_box, again, chosen))
                self.assertIs(by_verdict(box, one, chosen), by_verdict(other_box, two, chosen))
                if chosen in found:
                    self.assertEqual(spare(works, box, wishes, chosen), spare(other, other_box, again, chosen))
        self.assertGreater(good, 100)

    def renamed_verdict(self, wishes, found, names):
        def proof(item, rows):
            return (item[0], tuple(renamed_paper(wish, paper, names) for wish, paper in zip(rows, item[1])))

        def lack(item):
            return (item[0], item[1], renamed_thing(wishes[item[1]], item[2], names))

        upward = [wish for wish in wishes if wish[0] != "hidden"]
        downward = [wish for wish in wishes if wish[0] == "hidden"]
        uppers, falls, lowers, leaks = found
        return (
            [proof(item, upward) for item in uppers], [lack(item) for item in falls],
            [proof(item, downward) for item in lowers], [lack(item) for item in leaks],
        )

    def test_desks_and_texts(self):
        for chance, (works, box, chosen), (other, other_box, _), names in cases(618, 40):
            one, two = Desk(works, box), Desk(other, other_box)
            wishes = some_wishes(chance, works, box)
            for wish in wishes:
                if wish not in one.wishes():
                    one.wish(wish)
                    two.wish(renamed_wish(wish, names))
            one.choose(chosen)
            two.choose(chosen)
            self.assertEqual(one.fulfilled(), two.fulfilled())
            self.assertEqual((one.is_good(), one.price(), one.better()), (two.is_good(), two.price(), two.better()))
            self.assertEqual(one.lacks() and one.lacks()[0], two.lacks() and two.lacks()[0])
            self.assertEqual(read_text(written(other, other_box)), (other, other_box))


class Turned(unittest.TestCase):
    """Equal works and boxes, with all in another order."""

    def test_works_and_runs(self):
        chance = random.Random(619)
        for _ in range(60):
            parts = some_whole_parts(chance)
            one, other = Works(**parts), turned(chance, parts)
            self.assertEqual(one, other)
            for told_of in (Works.standings, Works.kept):
                self.assertEqual(told_of(one), told_of(other))
            for name in ("words", "faults", "secrets", "diligent"):
                self.assertEqual(getattr(one, name), getattr(other, name))
            for standing in one.standings():
                for told_of in (Works.moves, Works.kept_moves, Works.is_barred):
                    self.assertEqual(told_of(one, standing), told_of(other, standing))
                for secret in one.secrets:
                    self.assertIs(one.is_secret(secret, standing), other.is_secret(secret, standing))
            for standing in one.kept():
                run = way_to(one, standing)
                self.assertEqual(run, way_to(other, standing))
                self.assertEqual((end_of(other, run), words_of(other, run)), (standing, words_of(one, run)))

    def test_boxes_and_sights(self):
        chance = random.Random(620)
        for _ in range(60):
            parts = some_whole_parts(chance)
            works, again = Works(**parts), turned(chance, parts)
            box = some_box(chance, works, 6)
            other, chosen = turned_box(chance, box), some_set(chance, box)
            turned_chosen = turned_set(chance, chosen)
            self.assertEqual((box, box.names(), len(box)), (other, other.names(), len(other)))
            self.assertEqual(box.price(chosen), other.price(turned_chosen))
            for post in (0, 1):
                self.assertEqual(box.holds(chosen, post), other.holds(turned_chosen, post))
            for word in works.words:
                self.assertEqual(box.joint(chosen, word), other.joint(turned_chosen, word))
            for run in workings.runs_up_to(works, 2, works.moves)[:30]:
                for reader in READERS:
                    self.assertEqual(
                        seen(works, box, chosen, reader, run), seen(again, other, turned_chosen, reader, run),
                    )


if __name__ == "__main__":
    unittest.main()
