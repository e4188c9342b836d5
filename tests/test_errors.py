"""The errors: their names, what they stand under, and their fields."""
import inspect
import unittest

from scenetongue import errors

NAMES = ("BadScene", "NoPieces", "NoAsker", "NoWay", "NoLine", "NoMoment", "NoLook", "NoCell", "Nothing")
WITH_FIELDS = ("BadScene", "NoPieces")


def error_named(name):
    return getattr(errors, name)


class Family(unittest.TestCase):
    def test_scene_error_is_a_value_error(self):
        self.assertEqual(errors.SceneError.__bases__, (ValueError,))

    def test_each_is_directly_under_scene_error(self):
        for name in NAMES:
            with self.subTest(name):
                self.assertEqual(error_named(name).__bases__, (errors.SceneError,))

    def test_none_is_under_another(self):
        for name in NAMES:
            for other in NAMES:
                if name != other:
                    self.assertFalse(issubclass(error_named(name), error_named(other)), (name, other))

    def test_each_has_its_own_name_and_is_defined_here(self):
        for name in ("SceneError", *NAMES):
            with self.subTest(name):
                self.assertEqual(error_named(name).__name__, name)
                self.assertEqual(error_named(name).__module__, "scenetongue.errors")

    def test_there_are_no_others(self):
        found = [name for name, thing in vars(errors).items() if inspect.isclass(thing)]
        self.assertEqual(sorted(found), sorted(("SceneError", *NAMES)))

    def test_each_can_be_raised_and_caught_as_scene_error(self):
        for name in NAMES:
            if name in WITH_FIELDS:
                continue
            for told in ((), ("some words",)):
                with self.subTest(name, told=told), self.assertRaises(errors.SceneError) as caught:
                    raise error_named(name)(*told)
                self.assertIs(type(caught.exception), error_named(name))


class Fields(unittest.TestCase):
    def test_bad_scene_has_at_and_why(self):
        for at, why in ((0, "long"), (3, "kind"), (79, "many"), (200, "")):
            with self.subTest(at=at), self.assertRaises(errors.SceneError) as caught:
                raise errors.BadScene(at, why)
            self.assertIs(type(caught.exception), errors.BadScene)
            self.assertEqual((caught.exception.at, caught.exception.why), (at, why))

    def test_no_pieces_has_at(self):
        for at in (-1, 0, 1, 143):
            with self.subTest(at=at), self.assertRaises(errors.SceneError) as caught:
                raise errors.NoPieces(at)
            self.assertIs(type(caught.exception), errors.NoPieces)
            self.assertEqual(caught.exception.at, at)

    def test_fields_are_what_was_handed_in(self):
        at, why = 10 ** 59 + 7, "w" * 500
        bad = errors.BadScene(at, why)
        self.assertIs(bad.at, at)
        self.assertIs(bad.why, why)
        self.assertIs(errors.NoPieces(at).at, at)

    def test_fields_of_two_errors_are_their_own(self):
        first, second = errors.BadScene(1, "word"), errors.BadScene(2, "name")
        self.assertEqual((first.at, first.why, second.at, second.why), (1, "word", 2, "name"))

    def test_arguments_have_the_fields_names(self):
        self.assertEqual(list(inspect.signature(errors.BadScene).parameters), ["at", "why"])
        self.assertEqual(list(inspect.signature(errors.NoPieces).parameters), ["at"])


if __name__ == "__main__":
    unittest.main()
