"""The limits have their names and values."""

import unittest

from lamprounds import limits

EXPECTED = {
    "LEVELS": (2, 3, 5, 7),
    "MOST_LAMPS": 400,
    "MOST_STEPS": 4000,
    "MOST_ROUNDS": 4,
    "MOST_PLACE": 24,
    "MOST_END": 8,
    "MOST_NEAR": 40,
    "MOST_TIMES": 1000,
    "MOST_CHANGES": 6,
}


class Limits(unittest.TestCase):
    def test_each_limit_has_its_value(self):
        for name, value in EXPECTED.items():
            with self.subTest(name=name):
                self.assertEqual(getattr(limits, name), value)
                self.assertIs(type(getattr(limits, name)), type(value))

    def test_no_other_limit(self):
        self.assertEqual({name for name in vars(limits) if name.isupper()}, set(EXPECTED))


if __name__ == "__main__":
    unittest.main()
