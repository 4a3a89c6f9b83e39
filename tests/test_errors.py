"""The errors have their attributes and belong to their base classes, and to no others."""

import unittest

from lamprounds import errors
from lamprounds.rounds import Round

# Each base class, Python's class above it, and its classes with the attribute that each one has.
LISTED = {
    "WrongValue": (ValueError, {
        "InvalidText": "given", "InvalidName": "given", "InvalidIndex": "given", "InvalidLevels": "given",
        "InvalidNumber": "given", "InvalidWish": "given", "NotRound": "given", "NotLot": "given",
        "InvalidLamps": "index", "InvalidRounds": "index", "InvalidSteps": "index", "InvalidPlan": "index",
        "InvalidChanges": "index", "InvalidWishes": "index",
    }),
    "WrongName": (LookupError, {"UnknownName": "given", "InUse": "index"}),
    "NotPossible": (ArithmeticError, {
        "OtherLevels": "given", "TooMany": "given", "TooFar": "given", "NothingToUndo": None, "Broken": "index",
    }),
}
PYTHONS = (ValueError, LookupError, ArithmeticError)
ANYTHING = (None, True, False, 0, 1, -3, 10 ** 40, "", "a text", b"bytes", (), (1, (None, [2])), [], [1, [2]],
            {}, {"a": [1]}, {1, 2}, object(), int, len, ValueError("x"), Round(2, (), 0))


def listed():
    for base, (above, classes) in LISTED.items():
        for name, attribute in classes.items():
            yield base, above, name, attribute


class Attributes(unittest.TestCase):
    def test_made_by_position_and_by_name(self):
        for _, _, name, attribute in listed():
            if attribute is None:
                continue
            made = getattr(errors, name)
            for value in ANYTHING:
                with self.subTest(name=name, value=value):
                    for error in (made(value), made(**{attribute: value})):
                        self.assertIs(getattr(error, attribute), value)
                        self.assertEqual(list(vars(error)), [attribute])

    def test_nothing_to_undo_has_no_attributes(self):
        self.assertEqual(vars(errors.NothingToUndo()), {})

    def test_base_classes_have_no_attributes(self):
        for base in LISTED:
            with self.subTest(base=base):
                error = getattr(errors, base)()
                self.assertEqual(vars(error), {})
                self.assertFalse(hasattr(error, "given"))
                self.assertFalse(hasattr(error, "index"))

    def test_an_attribute_is_needed(self):
        for _, _, name, attribute in listed():
            with self.subTest(name=name):
                if attribute is not None:
                    self.assertRaises(TypeError, getattr(errors, name))


class Classes(unittest.TestCase):
    def test_all_are_there_and_no_others(self):
        found = {name for name, value in vars(errors).items() if isinstance(value, type)}
        self.assertEqual(found, set(LISTED) | {name for _, _, name, _ in listed()})

    def test_each_belongs_to_its_base_alone(self):
        own = [getattr(errors, name) for name in LISTED]
        own.extend([getattr(errors, name) for _, _, name, _ in listed()])
        for base, above, name, attribute in listed():
            error = getattr(errors, name)() if attribute is None else getattr(errors, name)(None)
            with self.subTest(name=name):
                self.assertIs(type(error), getattr(errors, name))
                belongs = [kind.__name__ for kind in own if isinstance(error, kind)]
                self.assertEqual(sorted(belongs), sorted([base, name]))
                self.assertEqual([kind for kind in PYTHONS if isinstance(error, kind)], [above])

    def test_base_classes_belong_to_pythons_alone(self):
        for base, (above, _) in LISTED.items():
            with self.subTest(base=base):
                self.assertEqual(getattr(errors, base).__bases__, (above,))

    def test_defined_in_this_file(self):
        for name in list(LISTED) + [name for _, _, name, _ in listed()]:
            with self.subTest(name=name):
                self.assertEqual(getattr(errors, name).__module__, "lamprounds.errors")

    def test_raised_and_caught(self):
        for base, above, name, attribute in listed():
            made = getattr(errors, name)
            for kind in (made, getattr(errors, base), above):
                with self.subTest(name=name, kind=kind):
                    with self.assertRaises(kind):
                        raise made() if attribute is None else made([1])


if __name__ == "__main__":
    unittest.main()
