"""All that the document's section "An example" says, in its own words."""

import unittest

from watchedworks.boxes import Box
from watchedworks.foretelling import warned
from watchedworks.goodsets import cheapest, greatest_good, least_good
from watchedworks.hands import Hand
from watchedworks.hiding import hidden
from watchedworks.instruments import Lock, Sensor
from watchedworks.keeping import conflict, is_conflict, keeps
from watchedworks.surely import surely
from watchedworks.telling import late
from watchedworks.works import Works

pump = Hand(0, [(0, "start", 1), (1, "stop", 0), (1, "slip", 2), (2, "stop", 0), (2, "burst", 3)])
plant = Works([pump], bars=[{0: 3}], faults={"slip": "wear"}, secrets={"hot": [{0: 2}]}, diligent=[0])
box = Box([
    Sensor("ear", 0, {"start": "hum", "slip": "hum"}, 2),
    Sensor("eye", 0, {"slip": "smoke"}, 3),
    Lock("valve", 0, ["burst"], 1),
])
SETS = [[], ["ear"], ["eye"], ["valve"], ["ear", "eye"], ["ear", "valve"], ["eye", "valve"], ["ear", "eye", "valve"]]


class Example(unittest.TestCase):
    def test_standings(self):
        self.assertEqual(plant.standings(), [(0,), (1,), (2,), (3,)])
        self.assertEqual([plant.is_barred(standing) for standing in plant.standings()], [False, False, False, True])
        self.assertEqual(plant.kept(), [(0,), (1,), (2,)])

    def test_keeping(self):
        thing = ("burst", (("start", (1,)), ("slip", (2,))), (None, None))
        for chosen in SETS:
            self.assertIs(keeps(plant, box, chosen), "valve" in chosen)
            self.assertIs(is_conflict(plant, box, chosen, thing), "valve" not in chosen)
            self.assertIs(conflict(plant, box, chosen) is None, "valve" in chosen)

    def test_telling_and_foretelling(self):
        self.assertIsNone(late(plant, box, ["ear"], "wear"))
        self.assertEqual(late(plant, box, ["eye"], "wear"), 0)
        self.assertIs(warned(plant, box, ["ear", "eye"], "wear", 0), False)

    def test_hiding(self):
        for chosen in SETS:
            self.assertIs(hidden(plant, box, chosen, "hot"), True)
            self.assertIs(hidden(plant, box, chosen, "hot", joint=True), True)

    def test_good_sets(self):
        wishes = [("kept",), ("told", "wear", 0), ("hidden", "hot", False)]
        self.assertEqual(least_good(plant, box, wishes), [("eye", "valve")])
        self.assertEqual(greatest_good(plant, box, wishes), [("ear", "eye", "valve")])
        self.assertEqual(cheapest(plant, box, wishes), (4, [("eye", "valve")]))

    def test_surely(self):
        self.assertIs(surely(plant, seen=["slip"], wanted=["stop"]), True)


if __name__ == "__main__":
    unittest.main()
