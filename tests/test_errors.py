"""Point 5: the classes of the refusals."""

import unittest

from figrow import errors
from tests.samples import REFUSALS


class Classes(unittest.TestCase):
    def test_any_refusal_is_a_value_error(self):
        self.assertEqual(errors.RowError.__bases__, (ValueError,))

    def test_each_refusal_is_straight_under_row_error(self):
        for refusal in REFUSALS:
            with self.subTest(refusal.__name__):
                self.assertEqual(refusal.__bases__, (errors.RowError,))

    def test_none_is_under_another(self):
        for one in REFUSALS:
            for other in REFUSALS:
                self.assertEqual(issubclass(one, other), one is other)

    def test_each_one_can_be_raised(self):
        for refusal in REFUSALS:
            with self.assertRaises(errors.RowError) as caught:
                raise refusal("why")
            self.assertIs(type(caught.exception), refusal)


if __name__ == "__main__":
    unittest.main()
