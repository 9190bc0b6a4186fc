import unittest

from lastfew.errors import BadWindow, FewError, Late, NoKey, NoWord

REFUSALS = [BadWindow, NoWord, Late, NoKey]


class ErrorsTest(unittest.TestCase):
    def test_any_refusal_is_a_value_error(self):
        self.assertTrue(issubclass(FewError, ValueError))

    def test_each_stands_straight_under_few_error(self):
        for refusal in REFUSALS:
            with self.subTest(refusal.__name__):
                self.assertEqual(refusal.__bases__, (FewError,))

    def test_names_are_as_told(self):
        names = [error.__name__ for error in REFUSALS + [FewError]]
        self.assertEqual(names, ["BadWindow", "NoWord", "Late", "NoKey", "FewError"])

    def test_none_stands_below_another(self):
        for one in REFUSALS:
            for other in REFUSALS:
                with self.subTest(one=one.__name__, other=other.__name__):
                    self.assertEqual(issubclass(one, other), one is other)

    def test_each_is_taken_as_few_error_and_as_value_error(self):
        for refusal in REFUSALS:
            for base in (FewError, ValueError):
                with self.subTest(refusal=refusal.__name__, base=base.__name__):
                    with self.assertRaises(base):
                        raise refusal("refused")
