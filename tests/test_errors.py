import inspect
import unittest

from alwaysagree import errors
from tests.kinds import all_kinds

# Each class with the base class that it stands under, and the names of its attributes.
CLASSES = {
    "InvalidText": ("WrongValue", ["given"]),
    "InvalidNumber": ("WrongValue", ["given"]),
    "InvalidName": ("WrongValue", ["given"]),
    "InvalidWish": ("WrongValue", ["given"]),
    "InvalidIndex": ("WrongValue", ["given"]),
    "NotACouncil": ("WrongValue", ["given"]),
    "InvalidMinds": ("WrongValue", ["index"]),
    "InvalidWays": ("WrongValue", ["index"]),
    "InvalidWord": ("WrongValue", ["index"]),
    "InvalidThoughts": ("WrongValue", ["index"]),
    "InvalidOffers": ("WrongValue", ["index"]),
    "InvalidDoubts": ("WrongValue", ["index"]),
    "UnknownName": ("WrongName", ["given"]),
    "NoDays": ("NoAnswer", []),
    "NoEnd": ("NoAnswer", []),
    "TooMany": ("NoAnswer", ["given"]),
    "NothingToUndo": ("NoAnswer", []),
    "Broken": ("NoAnswer", ["index"]),
}
BASES = {"WrongValue": ValueError, "WrongName": LookupError, "NoAnswer": ArithmeticError}


def made_each_way(name):
    """Pairs of a value and an error made of it, by position and by name."""
    cls = getattr(errors, name)
    for attribute in CLASSES[name][1]:
        for value in all_kinds():
            yield value, cls(value)
            yield value, cls(**{attribute: value})


class TestClasses(unittest.TestCase):
    def test_the_base_classes_stand_under_pythons_own(self):
        for name, above in BASES.items():
            with self.subTest(name):
                self.assertEqual(getattr(errors, name).__bases__, (above,))

    def test_each_class_stands_under_its_one_base_class_alone(self):
        for name, (base, _) in CLASSES.items():
            with self.subTest(name):
                cls = getattr(errors, name)
                own = [above.__name__ for above in cls.__mro__ if above.__module__.startswith("alwaysagree")]
                self.assertEqual(own, [name, base])
                self.assertTrue(issubclass(cls, BASES[base]))

    def test_there_are_no_other_classes_and_all_are_defined_there(self):
        found = {name for name, cls in inspect.getmembers(errors, inspect.isclass) if cls.__module__ == errors.__name__}
        self.assertEqual(found, set(CLASSES) | set(BASES))

    def test_an_error_is_caught_under_its_base_class_and_not_under_the_others(self):
        for name, (base, attributes) in CLASSES.items():
            with self.subTest(name):
                error = getattr(errors, name)(*[0 for _ in attributes])
                for other in BASES:
                    self.assertEqual(isinstance(error, getattr(errors, other)), other == base)
                with self.assertRaises(getattr(errors, base)) as caught:
                    raise error
                self.assertIs(caught.exception, error)


class TestAttributes(unittest.TestCase):
    def test_the_attribute_keeps_what_was_passed(self):
        for name, (_, attributes) in CLASSES.items():
            for value, error in made_each_way(name):
                with self.subTest(name, kind=value.__class__.__name__):
                    self.assertIs(getattr(error, attributes[0]), value)

    def test_no_error_has_the_attribute_of_another(self):
        for name, (_, attributes) in CLASSES.items():
            with self.subTest(name):
                error = getattr(errors, name)(*[0 for _ in attributes])
                self.assertEqual([word for word in ("given", "index") if hasattr(error, word)], attributes)

    def test_an_attribute_is_wanted_where_one_is_listed(self):
        for name, (_, attributes) in CLASSES.items():
            if attributes:
                with self.subTest(name):
                    with self.assertRaises(TypeError):
                        getattr(errors, name)()
                    with self.assertRaises(TypeError):
                        getattr(errors, name)(1, 2)

    def test_errors_are_true_and_equal_to_themselves_alone(self):
        for name, (_, attributes) in CLASSES.items():
            with self.subTest(name):
                one, other = [getattr(errors, name)(*[0 for _ in attributes]) for _ in range(2)]
                self.assertTrue(one)
                self.assertTrue(one == one)
                self.assertFalse(one != one)
                self.assertFalse(one == other)
                self.assertTrue(one != other)


if __name__ == "__main__":
    unittest.main()
