"""What the errors of telling and foretelling have in common: the set, then the fault, then the number."""

from tests.nets import box_of_3000, works_of_3001
from tests.test_keeping import example_box
from tests.test_works_told import plant
from tests.things import is_plain_integer, strange_things
from watchedworks.errors import BadCount, BadFault, BadSet
from watchedworks.works import Works


class OrderOfErrors:
    """For a test case that has `calls(works, box)`: functions of the set, the fault and the number.

    The last of them asks for no number.
    """

    def asked(self):
        """A works and a box, and others with too many triples: TooMany is raised behind all other errors."""
        return [(plant(), example_box()), (works_of_3001((), [(0, "f", 0)], faults={"f": "wear"}), box_of_3000())]

    def test_sets_come_first(self):
        for works, box in self.asked():
            for call in self.calls(works, box):
                for thing in strange_things():
                    if not isinstance(thing, (list, tuple)):
                        self.refuses(BadSet, thing, call, thing, "none", -1)
                    self.refuses(BadSet, thing, call, [thing], "none", -1)
                    self.refuses(BadSet, thing, call, (box.names()[0], thing), "wear", 0)
                self.refuses(BadSet, box.names()[0], call, box.names()[:1] * 2, None, None)

    def test_faults_come_next(self):
        for works, box in self.asked():
            for call in self.calls(works, box):
                for thing in [*strange_things(), "slip", "hot", "Wear", ["wear"], ("wear",), b"wear"]:
                    self.refuses(BadFault, thing, call, box.names(), thing, -1)
                    self.refuses(BadFault, thing, call, box.names(), thing, 0)

    def test_numbers_come_next(self):
        for works, box in self.asked():
            for call in self.calls(works, box)[:-1]:
                for thing in [*strange_things(), -1, 1001, 0.0, True, False, "0", [0]]:
                    if not (is_plain_integer(thing) and 0 <= thing <= 1000):
                        self.refuses(BadCount, thing, call, box.names(), "wear", thing)

    def test_0_and_1000_are_let(self):
        for number in (0, 1, 999, 1000):
            for call in self.calls(plant(), example_box()):
                call(["eye"], "wear", number)

    def test_a_works_without_faults(self):
        for call in self.calls(Works(plant().hands), example_box()):
            self.refuses(BadFault, "wear", call, ["eye"], "wear", 0)
