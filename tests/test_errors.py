"""The interface's list of errors (points 17, 19, 66, 68, 69, 74, 75, 78, 80, 82, 87, 88)."""

import unittest

from neverhappens import errors

# Each class with the names of its arguments, and with arguments for them.
ERRORS = {
    "BadText": {"line": 3},
    "Twice": {"name": "door"},
    "Unknown": {"name": "door"},
    "BadKind": {"name": "door"},
    "WrongKind": {"function": "main", "place": 4},
    "NoSite": {"function": "main", "place": 4, "fault": "range"},
    "NoPlace": {"function": "main", "place": None},
    "NotAccepted": {},
    "BadCertificate": {"line": 5},
    "WrongChange": {"name": "shut"},
    "NotPlain": {},
    "BadWitness": {"line": 0},
    "TooLong": {"amount": 10 ** 6000},
    "NothingLoaded": {},
    "NothingToUndo": {},
    "BadJournal": {"position": 7},
}


def made(name):
    """An error of the class with this name."""
    return getattr(errors, name)(*ERRORS[name].values())


class TestErrors(unittest.TestCase):
    def test_there_are_sixteen_and_the_base_class(self):
        listed = {name for name, found in vars(errors).items() if isinstance(found, type)}
        self.assertEqual(listed, {"NeverError", *ERRORS})
        self.assertEqual(len(ERRORS), 16)

    def test_base_class(self):
        self.assertEqual(errors.NeverError.__bases__, (ValueError,))
        for name in ERRORS:
            self.assertEqual(getattr(errors, name).__bases__, (errors.NeverError,), name)

    def test_attributes_are_the_arguments(self):
        for name, wanted in ERRORS.items():
            self.assertEqual(vars(made(name)), wanted, name)

    def test_arguments_by_name(self):
        for name, wanted in ERRORS.items():
            self.assertEqual(vars(getattr(errors, name)(**wanted)), wanted, name)

    def test_wrong_number_of_arguments(self):
        for name, wanted in ERRORS.items():
            with self.assertRaises(TypeError):
                getattr(errors, name)(*wanted.values(), 1)
            if wanted:
                with self.assertRaises(TypeError):
                    getattr(errors, name)(*list(wanted.values())[1:])

    def test_none_of_the_others_catches_it(self):
        for name in ERRORS:
            for other in ERRORS:
                if other != name:
                    self.assertNotIsInstance(made(name), getattr(errors, other))

    def test_raised_and_caught_as_the_base_classes(self):
        for name in ERRORS:
            for base in (errors.NeverError, ValueError, getattr(errors, name)):
                with self.assertRaises(base):
                    raise made(name)

    def test_each_has_a_message(self):
        for name in ERRORS:
            self.assertNotEqual(str(made(name)), "", name)


if __name__ == "__main__":
    unittest.main()
