from unittest import TestCase

from everyface import errors
from everyface.errors import FaceError
from tests.samples import OTHER_SORTS

WITH_GIVEN = ["InvalidForm", "InvalidNumber", "InvalidRoom", "InvalidQuadratic", "InvalidWeb", "InvalidGame"]
WITH_INDEX = ["InvalidRow", "InvalidLot", "InvalidShares", "InvalidEdges"]
BARE = ["NotAbove", "EmptyRoom", "NotInRoom", "Endless", "LikeMixes"]


class Classes(TestCase):
    def test_the_base_stands_under_value_error(self):
        self.assertEqual(FaceError.__bases__, (ValueError,))
        self.assertEqual(vars(FaceError()), {})

    def test_each_other_stands_under_the_base_alone(self):
        for name in WITH_GIVEN + WITH_INDEX + BARE:
            with self.subTest(name):
                self.assertEqual(getattr(errors, name).__bases__, (FaceError,))

    def test_there_are_no_others(self):
        made = [name for name, value in vars(errors).items() if isinstance(value, type)]
        self.assertEqual(sorted(made), sorted(WITH_GIVEN + WITH_INDEX + BARE + ["FaceError"]))
        for name in made:
            self.assertEqual(getattr(errors, name).__module__, "everyface.errors")


class Attributes(TestCase):
    def keeps(self, names, attribute):
        values = OTHER_SORTS + [0, 7, -1, 10 ** 5000, (1, 10 ** 5000)]
        for name in names:
            for value in values:
                with self.subTest(name=name, sort=type(value)):
                    error = getattr(errors, name)
                    for made in (error(value), error(**{attribute: value})):
                        self.assertIs(getattr(made, attribute), value)
                        self.assertEqual(list(vars(made)), [attribute])
                        self.assertIsInstance(str(made), str)

    def test_given_is_kept(self):
        self.keeps(WITH_GIVEN, "given")

    def test_index_is_kept(self):
        self.keeps(WITH_INDEX, "index")

    def test_an_attribute_is_needed(self):
        for name in WITH_GIVEN + WITH_INDEX:
            with self.subTest(name), self.assertRaises(TypeError):
                getattr(errors, name)()

    def test_those_without_attributes_are_made_without_arguments(self):
        for name in BARE + ["FaceError"]:
            with self.subTest(name):
                self.assertEqual(vars(getattr(errors, name)()), {})

    def test_they_can_be_raised_and_caught(self):
        for name in WITH_GIVEN + WITH_INDEX:
            with self.subTest(name), self.assertRaises(ValueError) as caught:
                raise getattr(errors, name)([name])
            self.assertIn([name], vars(caught.exception).values())
        for name in BARE:
            with self.subTest(name), self.assertRaises(FaceError):
                raise getattr(errors, name)()
