"""[3]: the errors."""

import unittest

from tilesregrow import errors

FIELDS = {
    "BadText": ("line", "column"),
    "BadNumber": ("what", "number"),
    "BadName": ("name",),
    "BadTile": ("tile",),
    "BadPlace": ("place",),
    "NoName": ("name",),
    "TakenName": ("name",),
    "NotThere": ("place",),
    "Taken": ("place",),
    "Loose": ("place", "bonds"),
    "TooMany": ("what", "many", "limit"),
    "NotKept": ("promise", "witness"),
    "NothingToUndo": (),
    "NothingToRedo": (),
}

VALUES = (
    (0, 0, 0), (1, 2, 3), (-5, 10 ** 40, True), ("line", "", "x y"), (None, None, None),
    ((1, 2), ((), ("a", None)), ()), ([1, 2], {"a": [3]}, {1, 2}), (1.5, b"ab", object()), (ValueError, len, Exception("x")),
)


class ErrorsTest(unittest.TestCase):
    def test_there_are_fourteen(self):
        self.assertEqual(len(FIELDS), 14)

    def test_the_base(self):
        self.assertTrue(issubclass(errors.TileError, ValueError))
        with self.assertRaises(ValueError):
            raise errors.TileError("x")

    def test_values_are_kept_in_the_told_order(self):
        for name, fields in FIELDS.items():
            for values in VALUES:
                passed = values[:len(fields)]
                error = getattr(errors, name)(*passed)
                for field, value in zip(fields, passed):
                    self.assertIs(getattr(error, field), value, (name, field))

    def test_values_are_kept_by_name(self):
        for name, fields in FIELDS.items():
            passed = dict(zip(fields, ("a", ("b", 1), None)))
            error = getattr(errors, name)(**passed)
            self.assertEqual({field: getattr(error, field) for field in fields}, passed)

    def test_what_is_changed_behind_the_call_is_the_same_value(self):
        value = [1]
        error = errors.NotKept("p", value)
        value.append(2)
        self.assertIs(error.witness, value)

    def test_each_is_its_own_kind(self):
        for name, fields in FIELDS.items():
            error = getattr(errors, name)(*range(len(fields)))
            self.assertIsInstance(error, errors.TileError)
            self.assertIsInstance(error, ValueError)
            kinds = [other for other in FIELDS if isinstance(error, getattr(errors, other))]
            self.assertEqual(kinds, [name])

    def test_each_stands_straight_below_the_base(self):
        for name in FIELDS:
            self.assertEqual(getattr(errors, name).__bases__, (errors.TileError,))

    def test_each_can_be_raised_and_caught(self):
        for name, fields in FIELDS.items():
            kind = getattr(errors, name)
            for caught in (kind, errors.TileError, ValueError):
                with self.assertRaises(caught) as held:
                    raise kind(*fields)
                self.assertEqual([getattr(held.exception, field) for field in fields], list(fields))
                self.assertIsInstance(str(held.exception), str)

    def test_wrong_numbers_of_values(self):
        for name, fields in FIELDS.items():
            with self.assertRaises(TypeError):
                getattr(errors, name)(*range(len(fields) + 1))
            if fields:
                with self.assertRaises(TypeError):
                    getattr(errors, name)(*range(len(fields) - 1))


if __name__ == "__main__":
    unittest.main()
