"""The errors' bases and fields."""

import unittest

from giveway import errors

WITH_TEXT = (
    "NoChart", "NoPoints", "NoGraph", "NoPlace", "NoNet", "NoActor", "NoWeaving", "NoName", "NoChannel",
    "NoMost", "NoCode", "NoRow", "NoAddress", "NoDeed", "NotFull", "NotStill", "NoLine",
)


class TestErrors(unittest.TestCase):
    def test_base(self):
        self.assertEqual(errors.GiveError.__bases__, (ValueError,))
        self.assertEqual(str(errors.GiveError("a text")), "a text")

    def test_each_stands_straight_under_the_base(self):
        for name in WITH_TEXT + ("NoText", "Unsafe"):
            with self.subTest(name):
                self.assertEqual(getattr(errors, name).__bases__, (errors.GiveError,))
                self.assertEqual(getattr(errors, name).__name__, name)

    def test_no_two_are_one(self):
        classes = [getattr(errors, name) for name in WITH_TEXT + ("NoText", "Unsafe", "GiveError")]
        self.assertEqual(len(set(classes)), 20)

    def test_made_with_a_text(self):
        for name in WITH_TEXT:
            with self.subTest(name):
                self.assertEqual(str(getattr(errors, name)("a text")), "a text")

    def test_no_text(self):
        self.assertEqual(errors.NoText(3).row, 3)
        self.assertEqual(errors.NoText(row=0).row, 0)
        self.assertIsInstance(str(errors.NoText(3)), str)
        with self.assertRaises(TypeError):
            errors.NoText()

    def test_unsafe(self):
        for error in (errors.Unsafe(1, 2, (3, 4)), errors.Unsafe(way=(3, 4), row=2, actor=1)):
            self.assertEqual((error.actor, error.row, error.way), (1, 2, (3, 4)))
            self.assertIsInstance(str(error), str)
        with self.assertRaises(TypeError):
            errors.Unsafe(1, 2)


if __name__ == "__main__":
    unittest.main()
