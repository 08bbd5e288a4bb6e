import unittest

from fadewalk import errors

WITH_TEXT = (
    "NoFraction", "NoLot", "Unlike", "BadWalk", "NoWalk", "NoSteps", "NoPlace", "NoNumber", "NoSet",
    "NoRest", "NoBound", "NoRule", "NoPlan", "NoParts", "NoMove", "NoMark", "NoDeed", "NoLine",
)
WITH_FIELDS = ("NoText", "TooMany")


class Standing(unittest.TestCase):
    def test_root_stands_straight_under_value_error(self):
        self.assertEqual(errors.FadeError.__bases__, (ValueError,))

    def test_others_stand_straight_under_the_root(self):
        for name in WITH_TEXT + WITH_FIELDS:
            with self.subTest(name):
                self.assertEqual(getattr(errors, name).__bases__, (errors.FadeError,))

    def test_each_name_is_a_class_of_its_own(self):
        for name in WITH_TEXT + WITH_FIELDS + ("FadeError",):
            self.assertEqual(getattr(errors, name).__name__, name)
        kinds = {getattr(errors, name) for name in WITH_TEXT + WITH_FIELDS}
        self.assertEqual(len(kinds), 20)


class Making(unittest.TestCase):
    def test_made_with_a_text(self):
        for name in WITH_TEXT + ("FadeError",):
            with self.subTest(name):
                kind = getattr(errors, name)
                with self.assertRaises(kind) as taken:
                    raise kind("some words")
                self.assertEqual(str(taken.exception), "some words")

    def test_no_text_by_place_and_by_name(self):
        for made in (errors.NoText(7), errors.NoText(line=7)):
            self.assertEqual(made.line, 7)
            self.assertIs(type(made), errors.NoText)
        self.assertEqual(errors.NoText(0).line, 0)

    def test_too_many_by_place_and_by_name(self):
        for made in (
            errors.TooMany(30, 25), errors.TooMany(30, most=25),
            errors.TooMany(many=30, most=25), errors.TooMany(most=25, many=30),
        ):
            self.assertEqual((made.many, made.most), (30, 25))
            self.assertIs(type(made), errors.TooMany)

    def test_those_with_fields_are_raised_and_taken(self):
        with self.assertRaises(errors.FadeError) as taken:
            raise errors.NoText(3)
        self.assertEqual(taken.exception.line, 3)
        with self.assertRaises(ValueError) as taken:
            raise errors.TooMany(7, 6)
        self.assertEqual((taken.exception.many, taken.exception.most), (7, 6))

    def test_those_with_fields_want_all_of_them(self):
        with self.assertRaises(TypeError):
            errors.NoText()
        with self.assertRaises(TypeError):
            errors.TooMany(1)


if __name__ == "__main__":
    unittest.main()
