"""The text of a round, and which strings are read as one."""

import unittest

from helpers import EqualsAll, FailsToCompare, outcome
from lamprounds.errors import InvalidText
from lamprounds.rounds import Round

BIG = 10 ** 39 + 7
TEXTS = (
    ("levels 2 end 0 dark", 2, (), 0),
    ("levels 3 end 0 dark", 3, (), 0),
    ("levels 5 end -1 dark", 5, (), -1),
    ("levels 7 end 10 dark", 7, (), 10),
    ("levels 3 end 5 lamps 0:1 2:2", 3, ((0, 1), (2, 2)), 5),
    ("levels 3 end -2 lamps -1:2 5:1", 3, ((-1, 2), (5, 1)), -2),
    ("levels 2 end 1 lamps 0:1", 2, ((0, 1),), 1),
    ("levels 5 end 100 lamps -10:4 -9:3 0:2 10:1 20:1", 5, ((-10, 4), (-9, 3), (0, 2), (10, 1), (20, 1)), 100),
    ("levels 7 end 0 lamps 1:1 2:2 3:3 4:4 5:5 6:6", 7, tuple((n, n) for n in range(1, 7)), 0),
    ("levels 7 end -1000000000000000000000000000000000000007 lamps "
     "-1000000000000000000000000000000000000007:6 1000000000000000000000000000000000000007:1",
     7, ((-BIG, 6), (BIG, 1)), -BIG),
)
WRONG = (
    "", " ", "\n", "dark", "levels", "levels 3", "levels 3 end", "levels 3 end 5", "levels 3 end 5 ",
    # spaces and newlines
    " levels 3 end 5 dark", "levels 3 end 5 dark ", "levels  3 end 5 dark", "levels 3  end 5 dark",
    "levels 3 end  5 dark", "levels 3 end 5  dark", "levels 3 end 5 dark\n", "\nlevels 3 end 5 dark",
    "levels\n3 end 5 dark", "levels 3 end 5\ndark", "levels3 end 5 dark", "levels 3 end5 dark", "levels 3 end 5dark",
    "levels 3end 5 dark", " levels 3 end 5 lamps 0:1", "levels 3 end 5 lamps 0:1 ", "levels 3 end 5 lamps  0:1",
    "levels 3 end 5 lamps 0:1  2:2", "levels 3 end 5 lamps 0:1\n", "levels 3 end 5 lamps 0:1\n2:2",
    "levels 3 end 5 lamps 0 :1", "levels 3 end 5 lamps 0: 1", "levels 3 end 5 lamps0:1", "levels 3 end 5 lamps\n0:1",
    # integers in another form
    "levels +3 end 5 dark", "levels 03 end 5 dark", "levels 3_ end 5 dark", "levels 3 end +5 dark",
    "levels 3 end 05 dark", "levels 3 end -0 dark", "levels 3 end 00 dark", "levels 3 end -05 dark",
    "levels 3 end 1_0 dark", "levels 3 end --5 dark", "levels 3 end - dark", "levels 3 end -5- dark",
    "levels 3 end 5.0 dark", "levels 3 end 5. dark", "levels 3 end 1e1 dark", "levels 3 end 0x5 dark",
    "levels 3 end x dark", "levels 3 end None dark", "levels 3 end True dark", "levels three end 5 dark",
    "levels 3 end 5 lamps +0:1", "levels 3 end 5 lamps -0:1", "levels 3 end 5 lamps 01:1",
    "levels 3 end 5 lamps 1_0:1", "levels 3 end 5 lamps 0:+1", "levels 3 end 5 lamps 0:01", "levels 3 end 5 lamps x:1",
    "levels 3 end 5 lamps 0:x", "levels 3 end 5 lamps -:1", "levels 3 end 5 lamps 0:-",
    # levels that are none
    "levels 0 end 5 dark", "levels 1 end 5 dark", "levels 4 end 5 dark", "levels 6 end 5 dark", "levels 9 end 5 dark",
    "levels -3 end 5 dark", "levels 11 end 5 dark", "levels 22 end 5 dark",
    "levels 4 end 5 lamps 0:1", "levels 1 end 5 lamps 0:1",
    # levels of lamps
    "levels 3 end 5 lamps 0:0", "levels 3 end 5 lamps 0:3", "levels 3 end 5 lamps 0:4", "levels 3 end 5 lamps 0:-1",
    "levels 2 end 5 lamps 0:2", "levels 7 end 5 lamps 0:7", "levels 3 end 5 lamps 0:1 1:0",
    "levels 3 end 5 lamps 0:1 1:3",
    # places
    "levels 3 end 5 lamps 0:1 0:1", "levels 3 end 5 lamps 0:1 0:2", "levels 3 end 5 lamps 2:2 0:1",
    "levels 3 end 5 lamps 0:1 -1:1", "levels 3 end 5 lamps 0:1 1:1 1:1", "levels 3 end 5 lamps -2:1 -3:1",
    # lamps and dark
    "levels 3 end 5 lamps", "levels 3 end 5 lamps ", "levels 3 end 5 lamps dark", "levels 3 end 5 dark 0:1",
    "levels 3 end 5 dark lamps 0:1", "levels 3 end 5 lamps 0:1 dark", "levels 3 end 5 0:1", "levels 3 end 5 dark dark",
    "levels 3 end 5 lamps lamps 0:1", "levels 3 end 5 lamps 0:1 lamps 2:1", "levels 3 end 5 lamps 0",
    "levels 3 end 5 lamps :", "levels 3 end 5 lamps :1", "levels 3 end 5 lamps 0:", "levels 3 end 5 lamps 0:1:1",
    "levels 3 end 5 lamps 0::1", "levels 3 end 5 lamps 0;1", "levels 3 end 5 lamps 0:1,2:1",
    "levels 3 end 5 lamps 0:1 2", "levels 3 end 5 lamps (0, 1)",
    # words left out, twice, in another order or written otherwise
    "3 end 5 dark", "levels end 5 dark", "levels 3 5 dark", "levels 3 end dark", "levels levels 3 end 5 dark",
    "levels 3 3 end 5 dark", "levels 3 end end 5 dark", "levels 3 end 5 5 dark", "levels 3 end 5 dark levels 3 end 5",
    "end 5 levels 3 dark", "levels 3 dark end 5", "dark levels 3 end 5", "lamps 0:1 levels 3 end 5",
    "levels 3 lamps 0:1 end 5", "end 3 levels 5 dark", "Levels 3 end 5 dark", "levels 3 End 5 dark",
    "levels 3 end 5 Dark", "LEVELS 3 END 5 DARK", "level 3 end 5 dark", "levels 3 ends 5 dark",
    "levels 3 end 5 lamp 0:1", "levels 3 end 5 Lamps 0:1", "levels 3 end 5 darker", "levels: 3 end: 5 dark",
    "levels=3 end=5 dark", "levels 3 end 5 light", "Round of 0 lamps",
)


class Text(unittest.TestCase):
    def test_the_text_of_a_round(self):
        for text, levels, lamps, end in TEXTS:
            trip = Round(levels, lamps, end)
            with self.subTest(text=text):
                self.assertEqual(trip.text, text)
                self.assertEqual(str(trip), text)
                self.assertIs(type(trip.text), str)
                self.assertEqual(f"{trip}", text)

    def test_many_lamps(self):
        lamps = tuple((place - 200, 1) for place in range(400))
        words = " ".join(f"{place}:1" for place in range(-200, 200))
        self.assertEqual(Round(2, lamps, 0).text, "levels 2 end 0 lamps " + words)


class Read(unittest.TestCase):
    def check(self, text, levels, lamps, end):
        for trip in (Round.read(text), Round.read(text=text)):
            self.assertIs(type(trip), Round)
            self.assertEqual(trip, Round(levels, lamps, end))
            self.assertEqual((trip.levels, trip.lamps, trip.end), (levels, lamps, end))
            self.assertIs(type(trip.lamps), tuple)
            self.assertEqual([type(lamp) for lamp in trip.lamps], [tuple] * len(lamps))
            self.assertEqual(trip.text, text)

    def test_the_text_of_a_round_is_read(self):
        for text, levels, lamps, end in TEXTS:
            with self.subTest(text=text):
                self.check(text, levels, lamps, end)

    def test_all_small_rounds(self):
        for levels in (2, 3, 5, 7):
            for end in (-12, -1, 0, 1, 12):
                for first in range(levels):
                    for second in range(levels):
                        lamps = tuple(lamp for lamp in ((-11, first), (10, second)) if lamp[1])
                        self.check(Round(levels, lamps, end).text, levels, lamps, end)

    def test_four_hundred_lamps_of_forty_digits(self):
        lamps = tuple((3 * place - BIG, place % 6 + 1) for place in range(400))
        self.check(Round(7, lamps, -BIG).text, 7, lamps, -BIG)

    def test_read_by_an_object(self):
        trip = Round(2, (), 3)
        self.assertEqual(trip.read("levels 3 end 0 dark"), Round(3, (), 0))
        self.assertEqual(trip, Round(2, (), 3))


class ReadWrong(unittest.TestCase):
    def check(self, value):
        with self.subTest(value=value):
            for found, told in (outcome(Round.read, value), outcome(Round.read, text=value)):
                self.assertIs(found, InvalidText)
                self.assertEqual(list(told), ["given"])
                self.assertIs(told["given"], value)

    def test_other_strings(self):
        for text in WRONG:
            self.check(text)

    def test_digits_of_other_scripts(self):
        self.check("levels 3 end \u0665 dark")
        self.check("levels 3 end \u00b2 dark")
        self.check("levels 3 end 5 lamps 0:\uff11")

    def test_too_many_lamps(self):
        words = " ".join(f"{place}:1" for place in range(400))
        self.assertEqual(len(Round.read("levels 2 end 0 lamps " + words)), 400)
        self.check("levels 2 end 0 lamps " + words + " 400:1")
        self.check("levels 2 end 0 lamps -1:1 " + words)

    def test_each_change_of_one_sign(self):
        # A string that is read is the text of what is read, so nothing else is.
        for text in ("levels 3 end 5 lamps 0:1 2:2", "levels 7 end -10 dark"):
            for index in range(len(text) + 1):
                for sign in ("", " ", "\n", "0", "1", "9", "-", "+", "_", ":", "a", "L"):
                    for changed in (text[:index] + sign + text[index:], text[:index] + sign + text[index + 1:]):
                        try:
                            self.assertEqual(Round.read(changed).text, changed)
                        except InvalidText as error:
                            self.assertIs(error.given, changed)
                            self.assertNotEqual(changed, text)

    def test_no_strings(self):
        for value in (None, True, False, 0, 1, -1, b"", b"levels 3 end 5 dark", (), ("levels 3 end 5 dark",),
                      ("levels", "3", "end", "5", "dark"), [], ["levels 3 end 5 dark"], {}, {"levels": 3}, {"a"},
                      object(), str, Round, Round(3, (), 5), (3, (), 5), EqualsAll(), FailsToCompare()):
            self.check(value)


if __name__ == "__main__":
    unittest.main()
