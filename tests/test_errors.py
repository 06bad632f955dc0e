"""Points [9] and [11]: the error classes."""

import unittest

from everydecider import errors

WITH_ATTRIBUTE = {
    "BadRatio": "bottom", "BadUnit": "unit", "BadSize": "size", "BadRow": "index",
    "BadPayoffs": "index", "BadRule": "index", "BadTimes": "times", "TooMany": "count",
    "NoSignal": "signal", "NoState": "state", "NoAct": "act", "NotTwoStates": "states",
    "BadCorners": "index", "BadName": "name", "NameTaken": "name", "UnknownName": "name",
    "BadLine": "line",
}
WITHOUT_ATTRIBUTE = [
    "BadText", "Mismatch", "BadPrior", "BadGroups", "BadWeights", "BadProgram",
    "NothingToUndo", "NothingToRedo",
]
EVERY = [*WITH_ATTRIBUTE, *WITHOUT_ATTRIBUTE]


class Silent:
    """A value that can be neither compared nor shown."""

    def __eq__(self, other):
        raise RuntimeError

    def __repr__(self):
        raise RuntimeError

    def __str__(self):
        raise RuntimeError


class ErrorClasses(unittest.TestCase):

    def test_all_stand_directly_below_decider_error(self):
        for name in EVERY:
            self.assertEqual(getattr(errors, name).__bases__, (errors.DeciderError,), name)
        self.assertEqual(errors.DeciderError.__bases__, (ValueError,))

    def test_there_are_25_and_all_are_defined_in_the_file(self):
        found = [name for name, value in vars(errors).items() if isinstance(value, type)]
        self.assertEqual(sorted(found), sorted([*EVERY, "DeciderError"]))
        self.assertEqual(len(EVERY), 25)
        for name in found:
            self.assertEqual(getattr(errors, name).__module__, "everydecider.errors")

    def test_an_error_is_caught_as_its_kinds_only(self):
        for name in EVERY:
            kind = getattr(errors, name)
            error = kind(0) if name in WITH_ATTRIBUTE else kind()
            for other in EVERY:
                self.assertEqual(isinstance(error, getattr(errors, other)), other == name)
            for above in (errors.DeciderError, ValueError, Exception):
                with self.assertRaises(above):
                    raise error
            self.assertNotIsInstance(error, (LookupError, ArithmeticError, TypeError))

    def test_attributes_by_position_and_by_name(self):
        values = [0, -7, 10 ** 30, True, None, "", "a b", (1, 2), [1, [2]], {"a": 1}, b"x", Silent(), Silent]
        for name, attribute in WITH_ATTRIBUTE.items():
            kind = getattr(errors, name)
            for value in values:
                self.assertIs(getattr(kind(value), attribute), value)
                self.assertIs(getattr(kind(**{attribute: value}), attribute), value)

    def test_each_object_has_just_its_attributes(self):
        for name, attribute in WITH_ATTRIBUTE.items():
            self.assertEqual(list(vars(getattr(errors, name)(3))), [attribute])
        for name in WITHOUT_ATTRIBUTE:
            self.assertEqual(vars(getattr(errors, name)()), {})

    def test_an_argument_is_needed_where_one_is_listed(self):
        for name in WITH_ATTRIBUTE:
            with self.assertRaises(TypeError):
                getattr(errors, name)()
            with self.assertRaises(TypeError):
                getattr(errors, name)(1, 2)

    def test_objects_do_not_share_attributes(self):
        one, other = errors.BadUnit(1), errors.BadUnit(2)
        self.assertEqual([one.unit, other.unit], [1, 2])


if __name__ == "__main__":
    unittest.main()
