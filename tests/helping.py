"""What several tests ask in the same way."""

import unittest

NO_PLACES = (None, 0, "ab", (), (1,), (1, 2, 3), [0, 0], [1, 2], (True, 0), (0, True), (False, False), ("0", 0),
             (0, None), (0, 1.0), (1.5, 2), ((0, 0), 0), {0: 1, 1: 2}, ((0, 0), (0, 1)))

NO_NUMBERS = (-1, -10 ** 30, True, False, None, 1.0, "1", (), (1,), [2])

NO_SIDES = (-1, 4, 10 ** 20, True, False, None, 1.0, "0", (), (1,), [2])


class TilesTest(unittest.TestCase):
    def assert_error(self, kind, fields, action, *passed, **named):
        """The call raises this very kind, with these fields in its order."""
        with self.assertRaises(kind) as held:
            action(*passed, **named)
        self.assertEqual(held.exception.__class__.__name__, kind.__name__)
        self.assertEqual(list(vars(held.exception).values()), list(fields))
        for value, field in zip(vars(held.exception).values(), fields):
            self.assertEqual(repr(value), repr(field))

    def assert_same(self, value, told):
        """Equal, and of plain kinds: a tuple is no list, True is no 1."""
        self.assertEqual(value, told)
        self.assertEqual(repr(value), repr(told))
