import unittest

from drawn import REFUSALS

from leanmodes import errors


class Errors(unittest.TestCase):
    def test_works_error_stands_under_value_error(self):
        self.assertTrue(issubclass(errors.WorksError, ValueError))
        self.assertIsNot(errors.WorksError, ValueError)

    def test_each_refusal_stands_under_works_error(self):
        for name in REFUSALS:
            with self.subTest(name=name):
                refusal = getattr(errors, name)
                self.assertTrue(issubclass(refusal, errors.WorksError))
                self.assertIsNot(refusal, errors.WorksError)
                self.assertEqual(refusal.__name__, name)

    def test_no_refusal_stands_under_another(self):
        for name in REFUSALS:
            for other in REFUSALS:
                if name != other:
                    with self.subTest(name=name, other=other):
                        self.assertFalse(issubclass(getattr(errors, name), getattr(errors, other)))

    def test_each_refusal_is_raised_and_taken_by_its_name_and_as_any_refusal(self):
        for name in REFUSALS:
            refusal = getattr(errors, name)
            for taken_as in (refusal, errors.WorksError, ValueError):
                with self.subTest(name=name, taken_as=taken_as.__name__):
                    with self.assertRaises(taken_as):
                        raise refusal("refused")
                    with self.assertRaises(taken_as):
                        raise refusal()


if __name__ == "__main__":
    unittest.main()
