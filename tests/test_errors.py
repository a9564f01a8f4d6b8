"""Point 7: the classes of the refusals."""

import unittest

from cornerhouse.errors import BadBody, BodyError, NoAxis, Uneven


class Errors(unittest.TestCase):
    def test_all_are_body_errors(self):
        for error in (BadBody, Uneven, NoAxis):
            self.assertTrue(issubclass(error, BodyError))
            self.assertIsNot(error, BodyError)

    def test_a_body_error_is_a_value_error(self):
        self.assertTrue(issubclass(BodyError, ValueError))

    def test_none_is_another(self):
        self.assertFalse(issubclass(BadBody, (Uneven, NoAxis)))
        self.assertFalse(issubclass(Uneven, (BadBody, NoAxis)))
        self.assertFalse(issubclass(NoAxis, (BadBody, Uneven)))


if __name__ == "__main__":
    unittest.main()
