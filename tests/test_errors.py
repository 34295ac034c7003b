import unittest

from topstretch import errors

REFUSALS = ["NoStretch", "NoLength", "NoCount", "NoPlace", "NoText", "NoShape", "NoneYet", "NoRound"]


class TestRefusals(unittest.TestCase):
    def test_top_error_is_a_value_error(self):
        self.assertEqual(errors.TopError.__bases__, (ValueError,))

    def test_each_stands_under_top_error(self):
        for name in REFUSALS:
            with self.subTest(name=name):
                self.assertTrue(issubclass(getattr(errors, name), errors.TopError))

    def test_none_stands_under_another(self):
        for name in REFUSALS:
            for other in REFUSALS:
                if name != other:
                    with self.subTest(name=name, other=other):
                        self.assertFalse(issubclass(getattr(errors, name), getattr(errors, other)))

    def test_each_is_raised_and_taken(self):
        for name in REFUSALS:
            with self.subTest(name=name):
                with self.assertRaises(errors.TopError):
                    raise getattr(errors, name)("words")
