import copy
import inspect
import pickle
import unittest

from tests.things import strange_things
from watchedworks import errors

ATTRIBUTES = {
    "BadStart": "value", "BadSteps": "at", "BadHands": "at", "BadBars": "at", "BadFaults": "value",
    "BadSecrets": "value", "BadDiligent": "value", "BadStanding": "standing", "BadName": "value", "BadWord": "word",
    "BadRun": "at", "BadPost": "value", "BadSights": "value", "BadWords": "value", "BadCost": "value",
    "BadInstrument": "at", "BadSet": "value", "BadFault": "fault", "BadSecret": "secret", "BadCount": "count",
    "BadFlag": "flag", "BadWish": "value", "BadWishes": "at", "BadIndex": "at", "BadText": "at", "NotGood": "at",
    "TooMany": "limit",
}


class Errors(unittest.TestCase):
    """[4] and the interface of the errors."""

    def test_works_error_is_directly_under_value_error(self):
        self.assertEqual(errors.WorksError.__bases__, (ValueError,))

    def test_each_error_class_is_directly_under_works_error(self):
        for name in [*ATTRIBUTES, "NothingDone"]:
            with self.subTest(name):
                self.assertEqual(getattr(errors, name).__bases__, (errors.WorksError,))

    def test_no_other_error_class(self):
        classes = [name for name, value in vars(errors).items() if inspect.isclass(value)]
        self.assertEqual(sorted(classes), sorted([*ATTRIBUTES, "NothingDone", "WorksError"]))

    def test_made_by_place_keeps_what_it_is_made_with(self):
        for name, attribute in ATTRIBUTES.items():
            for thing in strange_things():
                self.assertIs(getattr(getattr(errors, name)(thing), attribute), thing)

    def test_made_by_name_keeps_what_it_is_made_with(self):
        for name, attribute in ATTRIBUTES.items():
            for thing in strange_things():
                self.assertIs(getattr(getattr(errors, name)(**{attribute: thing}), attribute), thing)

    def test_made_without_what_they_keep_is_refused(self):
        for name in ATTRIBUTES:
            with self.assertRaises(TypeError):
                getattr(errors, name)()

    def test_nothing_done_is_made_without_anything(self):
        self.assertIsInstance(errors.NothingDone(), errors.WorksError)
        with self.assertRaises(TypeError):
            errors.NothingDone(1)

    def test_each_has_a_text_whatever_it_keeps(self):
        for name in ATTRIBUTES:
            self.assertNotEqual(str(getattr(errors, name)(10 ** 5000)), "")

    def test_copies_keep_the_same(self):
        for name, attribute in ATTRIBUTES.items():
            error = getattr(errors, name)(7)
            self.assertEqual(getattr(copy.copy(error), attribute), 7)
            self.assertEqual(getattr(pickle.loads(pickle.dumps(error)), attribute), 7)


if __name__ == "__main__":
    unittest.main()
