"""The errors of the package: "The interface", heapgame/errors.py."""

import inspect
import unittest

from heapgame import errors

FIELDS = {
    "OutOfMemory": ["length"],
    "NotAllowed": ["length"],
    "NoRoom": ["length"],
    "NoSuchObject": ["number"],
    "NoSuchField": ["index"],
    "MoveError": ["index"],
    "StillUsed": ["number", "reason"],
    "MapLeaves": ["address"],
    "TextError": ["place"],
    "PowerCut": ["written"],
    "StrategyDecides": [],
    "Loses": [],
    "BadReply": [],
    "ShutError": [],
}


class ErrorsTest(unittest.TestCase):
    def test_the_errors_are_those_of_the_interface_and_defined_here(self):
        found = {name: kind for name, kind in vars(errors).items() if inspect.isclass(kind)}
        self.assertEqual(set(found), set(FIELDS) | {"HeapgameError"})
        for kind in found.values():
            self.assertEqual(kind.__module__, "heapgame.errors")

    def test_the_common_error_is_a_value_error(self):
        self.assertTrue(issubclass(errors.HeapgameError, ValueError))
        self.assertIsInstance(errors.HeapgameError(), ValueError)

    def test_each_error_is_a_common_error_and_no_other_one(self):
        kinds = [getattr(errors, name) for name in FIELDS]
        for kind in kinds:
            self.assertTrue(issubclass(kind, errors.HeapgameError), kind)
            for other in kinds:
                self.assertEqual(issubclass(kind, other), kind is other, (kind, other))

    def test_fields_by_position_and_by_keyword(self):
        for name, fields in FIELDS.items():
            kind = getattr(errors, name)
            values = [f"value of {field}" for field in fields]
            by_position = kind(*values)
            by_keyword = kind(**dict(zip(fields, values)))
            for error in (by_position, by_keyword):
                self.assertEqual([getattr(error, field) for field in fields], values, name)
                self.assertEqual(sorted(vars(error)), sorted(fields), name)

    def test_fields_keep_their_values(self):
        self.assertEqual(errors.OutOfMemory(0).length, 0)
        self.assertEqual(errors.NoSuchField(-1).index, -1)
        error = errors.StillUsed(7, "root")
        self.assertEqual((error.number, error.reason), (7, "root"))

    def test_wrong_numbers_of_fields(self):
        for name, fields in FIELDS.items():
            if fields:
                with self.assertRaises(TypeError, msg=name):
                    getattr(errors, name)()
                with self.assertRaises(TypeError, msg=name):
                    getattr(errors, name)(*range(len(fields) + 1))

    def test_each_can_be_caught_as_the_common_error(self):
        for name, fields in FIELDS.items():
            kind = getattr(errors, name)
            with self.assertRaises(errors.HeapgameError):
                raise kind(*range(len(fields)))


if __name__ == "__main__":
    unittest.main()
