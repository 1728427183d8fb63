"""movedactors.errors: the classes, their bases and their arguments."""

import unittest

from movedactors import errors
from samples import anythings, book, nested

PLAIN = ("BadPaper", "BadMeaning", "BadControl", "BadWords", "NotNow", "MixedEditions")
TELLING = {
    "NotClosable": "role", "BadTerm": "path", "BadText": "place", "BadSystem": "word", "NotTurned": "name",
    "TooLong": "limit",
}
PATHS = ("BadBook", "BadEdition", "BadChange")
MISSING = {"UnknownName": "name", "NotThere": "pair", "NoControl": "control", "NoActor": "address"}


class Errors(unittest.TestCase):
    def test_bases(self):
        self.assertEqual(errors.ActorsError.__bases__, (ValueError,))
        self.assertEqual(errors.NameMissing.__bases__, (LookupError,))
        for name in PLAIN + tuple(TELLING) + PATHS:
            self.assertEqual(getattr(errors, name).__bases__, (errors.ActorsError,), name)
        for name in MISSING:
            self.assertEqual(getattr(errors, name).__bases__, (errors.NameMissing,), name)

    def test_kinds_apart(self):
        for name in ("NameMissing",) + tuple(MISSING):
            self.assertFalse(issubclass(getattr(errors, name), (errors.ActorsError, ValueError)), name)
        for name in ("ActorsError",) + PLAIN + tuple(TELLING) + PATHS:
            self.assertFalse(issubclass(getattr(errors, name), LookupError), name)

    def test_no_other_classes(self):
        found = {name for name, value in vars(errors).items() if isinstance(value, type)}
        self.assertEqual(found, {"ActorsError", "NameMissing"} | set(PLAIN + PATHS) | set(TELLING) | set(MISSING))

    def test_each_is_caught_as_its_own_class_alone(self):
        made = [getattr(errors, name)() for name in PLAIN]
        made += [getattr(errors, name)("x") for name in tuple(TELLING) + PATHS + tuple(MISSING)]
        classes = [type(error) for error in made]
        for error in made:
            self.assertEqual([cls for cls in classes if isinstance(error, cls)], [type(error)])

    def test_arguments_stay_as_they_are(self):
        for table in (TELLING, MISSING):
            for name, attribute in table.items():
                for value in anythings() + [7, True, [1, 2], (1, 2)]:
                    error = getattr(errors, name)(value)
                    self.assertIs(getattr(error, attribute), value)
                    self.assertIsInstance(str(error), str)

    def test_paths_are_tuples(self):
        for name in PATHS:
            for path in ([], (), [1], (0, 2), [0, 1, 2], ["x", None], [nested(60)], (book(),)):
                error = getattr(errors, name)(path)
                self.assertIsInstance(error.path, tuple)
                self.assertEqual(error.path, tuple(path))

    def test_a_path_does_not_follow_the_list_that_was_passed(self):
        path = [1, 2]
        error = errors.BadEdition(path)
        path.append(3)
        self.assertEqual(error.path, (1, 2))

    def test_plain_ones_and_bases_can_be_made(self):
        for name in PLAIN + ("ActorsError", "NameMissing"):
            with self.assertRaises(getattr(errors, name)):
                raise getattr(errors, name)()
        self.assertIsInstance(errors.ActorsError("x", 1), ValueError)
        self.assertIsInstance(errors.NameMissing(None), LookupError)


if __name__ == "__main__":
    unittest.main()
