import unittest

from basetrees import errors
from basetrees.webs import Web
from samples import ODD, ODD_TUPLES

WRONG_VALUES = {
    "InvalidText": ("given",), "InvalidNumber": ("given",), "InvalidName": ("given",), "InvalidIndex": ("given",),
    "InvalidClaim": ("given",), "InvalidChoice": ("given",), "UnknownName": ("given",), "NotAWeb": ("given",),
    "NotAShelf": ("given",), "InvalidSources": ("given",), "InvalidTold": ("index",), "InvalidWeights": ("index",),
    "InvalidOffers": ("index",), "InvalidFreed": ("index",),
}
NO_ANSWERS = {
    "NoChoice": (), "TooMany": ("number",), "FullSource": ("given",), "Broken": ("index", "told"),
    "InUse": ("index",), "NothingToUndo": (),
}
ALL = {**WRONG_VALUES, **NO_ANSWERS}
VALUES = (*ODD, *ODD_TUPLES, "", "a", "a; b a", Web("a"), 2.5, [[["deep"]]])


def own_classes():
    return {name: kind for name, kind in vars(errors).items() if isinstance(kind, type)}


class ClassesTest(unittest.TestCase):
    def test_the_classes_are_those_of_the_document(self):
        self.assertEqual(set(own_classes()), {*ALL, "WrongValue", "NoAnswer"})

    def test_each_is_defined_in_this_file(self):
        for kind in own_classes().values():
            self.assertEqual(kind.__module__, "basetrees.errors")

    def test_the_two_base_classes(self):
        self.assertEqual(errors.WrongValue.__bases__, (ValueError,))
        self.assertEqual(errors.NoAnswer.__bases__, (ArithmeticError,))

    def test_each_wrong_value_is_below_its_base_alone(self):
        for name in WRONG_VALUES:
            self.assertEqual(getattr(errors, name).__bases__, (errors.WrongValue,), name)

    def test_each_missing_answer_is_below_its_base_alone(self):
        for name in NO_ANSWERS:
            self.assertEqual(getattr(errors, name).__bases__, (errors.NoAnswer,), name)

    def test_no_error_is_of_both_kinds(self):
        for name in WRONG_VALUES:
            self.assertFalse(issubclass(getattr(errors, name), (errors.NoAnswer, ArithmeticError)), name)
        for name in NO_ANSWERS:
            self.assertFalse(issubclass(getattr(errors, name), (errors.WrongValue, ValueError)), name)


class AttributesTest(unittest.TestCase):
    def assert_kept(self, error, attributes, values):
        self.assertEqual(list(vars(error)), list(attributes))
        for attribute, value in zip(attributes, values):
            self.assertIs(getattr(error, attribute), value)
        self.assertTrue(error)

    def test_made_by_position(self):
        for name, attributes in ALL.items():
            for value in VALUES:
                values = (value, "second")[:len(attributes)]
                self.assert_kept(getattr(errors, name)(*values), attributes, values)

    def test_made_by_name(self):
        for name, attributes in ALL.items():
            for value in VALUES:
                values = (value, "second")[:len(attributes)]
                self.assert_kept(getattr(errors, name)(**dict(zip(attributes, values))), attributes, values)

    def test_broken_keeps_both(self):
        for value in VALUES:
            for error in (errors.Broken(3, value), errors.Broken(told=value, index=3), errors.Broken(3, told=value)):
                self.assertEqual(error.index, 3)
                self.assertIs(error.told, value)

    def test_an_attribute_is_asked_for(self):
        for name, attributes in ALL.items():
            for many in range(len(attributes)):
                with self.assertRaises(TypeError):
                    getattr(errors, name)(*["x"] * many)

    def test_they_can_be_raised_and_caught(self):
        for name, attributes in ALL.items():
            kind = getattr(errors, name)
            base = errors.WrongValue if name in WRONG_VALUES else errors.NoAnswer
            with self.assertRaises(base) as caught:
                raise kind(*attributes)
            self.assertIs(type(caught.exception), kind)

    def test_the_base_classes_have_no_attributes(self):
        self.assert_kept(errors.WrongValue(), (), ())
        self.assert_kept(errors.NoAnswer(), (), ())


if __name__ == "__main__":
    unittest.main()
