import unittest

from straysign import errors
from straysign.making import filled, is_made, made
from straysign.mending import mended, read
from straysign.notes import line_read
from straysign.sheets import dealt, laid, taken_up

NAMES = ["NotPrime", "BadSign", "BadLength", "NotMended", "NoLine"]


class Errors(unittest.TestCase):
    def test_any_refusal_is_a_value_error(self):
        self.assertTrue(issubclass(errors.StrayError, ValueError))

    def test_each_stands_under_stray_error_and_beside_the_others(self):
        for name in NAMES:
            own = getattr(errors, name)
            self.assertTrue(issubclass(own, errors.StrayError), name)
            for other in NAMES:
                if other != name:
                    self.assertFalse(issubclass(own, getattr(errors, other)), (name, other))

    def test_a_refusal_can_be_taken_as_value_error(self):
        calls = [(made, (4, [1], 1)), (is_made, (7, [7], 1)), (filled, (7, [1], 2)), (mended, (7, [None], 1)),
                 (mended, (7, [1, 2], 1)), (read, (7, [1, 2], 1)), (laid, (7, [[1, 2]], 1)), (dealt, ([1], 0)),
                 (taken_up, (7, [1, 2], 1, 1)), (taken_up, (7, [1, 2], 3, 1)), (line_read, ("01",))]
        for call, arguments in calls:
            for taken in (errors.StrayError, ValueError):
                with self.assertRaises(taken):
                    call(*arguments)
