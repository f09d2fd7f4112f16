import unittest

from bargerow.errors import NoPlace, RowError


class ErrorsTest(unittest.TestCase):
    def test_a_row_error_is_a_value_error(self):
        self.assertEqual(RowError.__bases__, (ValueError,))

    def test_no_place_is_a_row_error(self):
        self.assertEqual(NoPlace.__bases__, (RowError,))


if __name__ == "__main__":
    unittest.main()
