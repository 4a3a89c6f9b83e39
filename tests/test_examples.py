"""The document's examples."""

import unittest

from helpers import outcome
from lamprounds.errors import InvalidLamps
from lamprounds.rounds import Round


class Rounds(unittest.TestCase):
    def test_rounds(self):
        one = Round(2, ((0, 1),), 1)
        far = Round.read("levels 3 end -2 lamps -1:2 5:1")
        self.assertEqual(
            [one.text, far.lamps, far.end, len(far), repr(one), Round(3, (), 0).text, bool(Round(3, (), 0))],
            ["levels 2 end 1 lamps 0:1", ((-1, 2), (5, 1)), -2, 2, "Round of 1 lamps", "levels 3 end 0 dark", True])
        self.assertEqual(outcome(Round, 3, ((0, 1), (1, 3)), 0), (InvalidLamps, {"index": 1}))


if __name__ == "__main__":
    unittest.main()
