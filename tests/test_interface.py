import importlib
import inspect
import unittest

from tests.test_errors import ATTRIBUTES

ERRORS = ["WorksError", "NothingDone", *ATTRIBUTES]

INSTRUMENT = ["name", "post", "words", "cost"]

# Of each class: what its body defines, and which of this are properties.
CLASSES = {
    "watchedworks.hands": {"Hand": (["__init__", "__eq__"], ["start", "steps", "words"])},
    "watchedworks.works": {"Works": (
        ["__init__", "__eq__", "__add__", "standings", "kept", "moves", "kept_moves", "is_barred", "is_secret",
         "fault_of", "renamed"],
        ["hands", "words", "faults", "secrets", "diligent"],
    )},
    "watchedworks.instruments": {
        "Sensor": (["__init__", "__eq__"], [*INSTRUMENT, "sights"]), "Lock": (["__init__", "__eq__"], INSTRUMENT),
    },
    "watchedworks.boxes": {"Box": (
        ["__init__", "__eq__", "__len__", "__getitem__", "__or__", "__sub__", "names", "price", "sight", "joint",
         "holds"], [],
    )},
    "watchedworks.guards": {"Guard": (["__init__", "estimate", "held", "lets", "stopped"], [])},
    "watchedworks.desk": {"Desk": (
        ["__init__", "put", "take", "choose", "wish", "forget", "undo", "wishes", "fulfilled", "is_good", "price",
         "lacks", "better", "trial", "trying"],
        ["works", "box", "chosen"],
    )},
}

CHOSEN = "(works, box, chosen)"
SECRET = "(works, box, chosen, secret, *, joint=False)"
QUESTION = "(works, *, seen=(), wanted)"
WISH = "(works, box, chosen, wish)"
WISHES = "(works, box, wishes)"
OF_SET = "(works, box, wishes, chosen)"
ASKED = "(works, box, chosen, fault, within)"
AHEAD = "(works, box, chosen, fault, ahead)"
FUNCTIONS = {
    "watchedworks.runs": {
        "is_run": "(works, thing)", "is_kept_run": "(works, thing)", "end_of": "(works, run)",
        "words_of": "(works, run)", "way_to": "(works, standing)",
    },
    "watchedworks.boxes": {"seen": "(works, box, chosen, post, run)"},
    "watchedworks.keeping": {
        "keeps": CHOSEN, "conflict": CHOSEN, "keep_paper": CHOSEN,
        "is_conflict": "(works, box, chosen, thing)", "is_keep_paper": "(works, box, chosen, thing)",
    },
    "watchedworks.telling": {
        "late": "(works, box, chosen, fault)", "told": ASKED, "untold": ASKED, "tell_paper": ASKED,
        "is_untold": "(works, box, chosen, fault, within, thing)",
        "is_tell_paper": "(works, box, chosen, fault, within, thing)",
    },
    "watchedworks.foretelling": {
        "warned": AHEAD, "lead": "(works, box, chosen, fault)", "unwarned": AHEAD, "warn_paper": AHEAD,
        "is_unwarned": "(works, box, chosen, fault, ahead, thing)",
        "is_warn_paper": "(works, box, chosen, fault, ahead, thing)", "doomed": "(works, fault)",
    },
    "watchedworks.hiding": {
        "hidden": SECRET, "betrayal": SECRET, "hide_paper": SECRET,
        "is_betrayal": "(works, box, chosen, secret, thing, *, joint=False)",
        "is_hide_paper": "(works, box, chosen, secret, thing, *, joint=False)",
        "estimates": "(works, box, chosen, reader)", "estimate_behind": "(works, box, chosen, reader, sights)",
    },
    "watchedworks.surely": {
        "surely": QUESTION, "sure_paper": QUESTION, "escape": QUESTION,
        "is_sure_paper": "(works, thing, *, seen=(), wanted)", "is_escape": "(works, thing, *, seen=(), wanted)",
    },
    "watchedworks.wishes": {
        "is_wish": "(works, thing)", "fulfils": WISH, "paper_of": WISH, "against": WISH,
        "is_paper_of": "(works, box, chosen, wish, thing)", "is_against": "(works, box, chosen, wish, thing)",
    },
    "watchedworks.wordings": {"worded": "(wish)", "read_wish": "(text)"},
    "watchedworks.goodsets": {
        "is_good": OF_SET, "good_sets": WISHES, "least_good": WISHES, "greatest_good": WISHES, "robust_sets": WISHES,
        "least_robust": WISHES, "cheapest": WISHES, "why_not": OF_SET, "spare": OF_SET,
    },
    "watchedworks.verdicts": {
        "verdict": WISHES, "is_verdict": "(works, box, wishes, thing)", "by_verdict": "(box, thing, chosen)",
    },
    "watchedworks.texts": {"written": "(works, box)", "read_text": "(text)"},
}


class Interface(unittest.TestCase):
    def test_each_error_is_defined_in_its_file(self):
        module = importlib.import_module("watchedworks.errors")
        for name in ERRORS:
            self.assertEqual(getattr(module, name).__module__, "watchedworks.errors")

    def test_each_class_is_defined_in_its_file_with_its_methods(self):
        for place, classes in CLASSES.items():
            for name, (methods, properties) in classes.items():
                found = getattr(importlib.import_module(place), name)
                self.assertTrue(inspect.isclass(found))
                self.assertEqual(found.__module__, place)
                for method in methods:
                    self.assertTrue(inspect.isfunction(vars(found)[method]), method)
                for attribute in properties:
                    self.assertIsInstance(vars(found)[attribute], property)

    def test_arguments(self):
        expected = {
            ("watchedworks.hands", "Hand"): "(start, steps)",
            ("watchedworks.works", "Works"): "(hands, *, bars=(), faults=None, secrets=None, diligent=())",
            ("watchedworks.instruments", "Sensor"): "(name, post, sights, cost)",
            ("watchedworks.instruments", "Lock"): "(name, post, words, cost)",
            ("watchedworks.boxes", "Box"): "(instruments)",
            ("watchedworks.guards", "Guard"): "(works, box, chosen)",
            ("watchedworks.desk", "Desk"): "(works, box)",
        }
        for (place, name), arguments in expected.items():
            found = getattr(importlib.import_module(place), name)
            self.assertEqual(str(inspect.signature(found)), arguments)

    def test_arguments_of_methods(self):
        expected = {
            ("works", "Works"): {
                "moves": "(self, standing)", "kept_moves": "(self, standing)", "is_barred": "(self, standing)",
                "is_secret": "(self, name, standing)", "fault_of": "(self, word)", "renamed": "(self, names)",
                "standings": "(self)", "kept": "(self)",
            },
            ("boxes", "Box"): {
                "names": "(self)", "price": "(self, chosen)", "sight": "(self, chosen, post, word)",
                "joint": "(self, chosen, word)", "holds": "(self, chosen, post)",
            },
            ("guards", "Guard"): {
                "estimate": "(self, post, sights)", "held": "(self, post, sights)", "lets": "(self, run)",
                "stopped": "(self, run)",
            },
            ("desk", "Desk"): {
                "put": "(self, name)", "take": "(self, name)", "choose": "(self, chosen)", "wish": "(self, wish)",
                "forget": "(self, at)", "undo": "(self)", "wishes": "(self)", "fulfilled": "(self)",
                "is_good": "(self)", "price": "(self)", "lacks": "(self)", "better": "(self)", "trial": "(self)",
                "trying": "(self, deed)",
            },
        }
        for (place, name), methods in expected.items():
            found = getattr(importlib.import_module("watchedworks." + place), name)
            for method, arguments in methods.items():
                self.assertEqual(str(inspect.signature(vars(found)[method])), arguments)

    def test_each_function_is_defined_in_its_file(self):
        for place, functions in FUNCTIONS.items():
            module = importlib.import_module(place)
            for name, arguments in functions.items():
                found = getattr(module, name)
                self.assertTrue(inspect.isfunction(found), name)
                self.assertEqual(found.__module__, place)
                self.assertEqual(str(inspect.signature(found)), arguments)


if __name__ == "__main__":
    unittest.main()
