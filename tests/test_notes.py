"""Promise [12], by examples worked out by hand."""

import random
import re
import unittest

from saidroad.errors import BadPlace, BadText, BadWalkers, RoadError
from saidroad.notes import read, written

NUMBERS = [str(number) for number in range(-99, 100)]
NO_NUMBERS = [
    "", "-", "--1", "-0", "00", "01", "-01", "-00", "007", "+1", "1+", "1-", "100", "-100", "999", "1000", "-999",
    "1.", "1.0", ".5", "1e1", "0x1", "1_0", "_1", "a", "1a", "a1", "I", "one", "None", "True", "1,", "(1)", "'1'", "~",
    "- 1",
]


class Written(unittest.TestCase):
    def test_rows_with_line_ends_between(self):
        self.assertEqual(written(((-3, 2),), 5), "said 5\nwalker -3 2")
        self.assertEqual(written(((0, 0), (99, -9), (-99, 9)), -7), "said -7\nwalker 0 0\nwalker 99 -9\nwalker -99 9")

    def test_no_walkers(self):
        self.assertEqual(written((), 0), "said 0")
        self.assertEqual(written((), -99), "said -99")

    def test_eight_walkers(self):
        self.assertEqual(written(((1, 1),) * 8, 1), "said 1" + "\nwalker 1 1" * 8)

    def test_what_can_not_be_is_refused(self):
        for walkers, number in (([], 0), (None, 0), (((0, 10),), 0), (((0, 1), (100, 0)), 1), (((0, 1),) * 9, 8)):
            with self.assertRaises(RoadError) as caught:
                written(walkers, 100)
            self.assertIs(type(caught.exception), BadWalkers)
            self.assertEqual(caught.exception.number, number)
        for start in (100, -100, True, False, None, "5", (5,)):
            with self.assertRaises(RoadError) as caught:
                written(((0, 1),), start)
            self.assertIs(type(caught.exception), BadPlace)


class Read(unittest.TestCase):
    def test_a_pair_of_walkers_and_start(self):
        self.assertEqual(read("said 5\nwalker -3 2"), (((-3, 2),), 5))
        self.assertEqual(read("said -7\nwalker 0 0\nwalker 99 -9\nwalker -99 9"), (((0, 0), (99, -9), (-99, 9)), -7))
        self.assertEqual(read("said 0"), ((), 0))

    def test_each_number_of_one_or_two_figures(self):
        for number in NUMBERS:
            self.assertEqual(read(f"said {number}\nwalker {number} 0"), (((int(number), 0),), int(number)))

    def test_what_is_written_is_read_to_the_same(self):
        chance = random.Random(12)
        for many in list(range(9)) * 20:
            walkers = tuple((chance.randint(-99, 99), chance.randint(-9, 9)) for _ in range(many))
            start = chance.randint(-99, 99)
            text = written(walkers, start)
            self.assertEqual(read(text), (walkers, start))
            self.assertEqual(written(*read(text)), text)
            self.assertTrue(re.fullmatch(r"said -?\d+(\nwalker -?\d+ -?\d)*", text))

    def test_kinds_of_what_is_told(self):
        told = read("said 5\nwalker -3 2\nwalker 1 0")
        self.assertIs(type(told), tuple)
        self.assertIs(type(told[0]), tuple)
        self.assertIs(type(told[1]), int)
        for walker in told[0]:
            self.assertIs(type(walker), tuple)
            self.assertEqual([type(number) for number in walker], [int, int])


class Refused(unittest.TestCase):
    def bad(self, row, text):
        with self.subTest(text=text):
            with self.assertRaises(RoadError) as caught:
                read(text)
            self.assertIs(type(caught.exception), BadText)
            self.assertEqual(vars(caught.exception), {"row": row})

    def bad_walkers(self, number, text):
        with self.subTest(text=text):
            with self.assertRaises(RoadError) as caught:
                read(text)
            self.assertIs(type(caught.exception), BadWalkers)
            self.assertEqual(vars(caught.exception), {"number": number})

    def test_the_empty_text(self):
        self.bad(0, "")

    def test_first_rows(self):
        for row in (
            "said", "said ", " said 5", "said  5", "said 5 ", "said 5 5", " ", "5", "5 said", "Said 5", "SAID 5", "say 5",
            "sai 5", "saidd 5", "said5", "walker 5", "walker 5 5", "walker", "said five", "said:5", "said,5", "said - 5",
        ):
            self.bad(0, row)
            self.bad(0, row + "\nwalker 1 1")
            self.bad(0, row + "\nwalker 1 1\n")

    def test_rows_of_walkers(self):
        for row in (
            "", " ", "walker", "walker ", "walker 1", "walker 1 ", "walker  1", "walker 1  1", "walker  1 1", " walker 1 1",
            "walker 1 1 ", "walker 1 1 1", "Walker 1 1", "walkers 1 1", "walke 1 1", "said 5", "said 1 1", "1 1",
            "walker1 1", "walker 1,1", "walker 1 1.", "1 walker 1", "walker 1 - 1", "walker (1 1)",
        ):
            self.bad(1, "said 5\n" + row)
            self.bad(1, "said 5\n" + row + "\nwalker 1 1\n")
            self.bad(2, "said 5\nwalker 1 1\n" + row)
            self.bad(2, "said 5\nwalker 1 1\n" + row + "\nnothing")

    def test_numbers(self):
        for word in NO_NUMBERS:
            self.bad(0, "said " + word)
            self.bad(1, f"said 5\nwalker {word} 1")
            self.bad(1, f"said 5\nwalker 1 {word}")
            self.bad(2, f"said 5\nwalker 1 1\nwalker {word} {word}")

    def test_line_ends_ahead_or_behind(self):
        self.bad(1, "said 5\n")
        self.bad(0, "\nsaid 5")
        self.bad(0, "\n")
        self.bad(2, "said 5\nwalker 1 1\n")
        self.bad(1, "said 5\n\nwalker 1 1")

    def test_the_first_row_that_is_not_so(self):
        self.bad(0, "\n\n\n")
        self.bad(3, "said 5\nwalker 1 1\nwalker 2 2\nwalker 03 3\nwalker 4 04\nsaid")

    def test_no_text(self):
        for text in (None, True, False, 0, 5, (), [], ("said 5",), ["said 5"]):
            self.bad(0, text)

    def test_paces_that_can_not_be(self):
        self.bad_walkers(0, "said 5\nwalker 1 10")
        self.bad_walkers(0, "said 5\nwalker 1 -10")
        self.bad_walkers(1, "said 5\nwalker 1 9\nwalker 1 99\nwalker 1 -99")
        self.assertEqual(read("said 5\nwalker 1 9\nwalker 1 -9"), (((1, 9), (1, -9)), 5))

    def test_a_ninth_walker(self):
        eight = "said 5" + "\nwalker 1 1" * 8
        self.assertEqual(read(eight), (((1, 1),) * 8, 5))
        self.bad_walkers(8, eight + "\nwalker 1 1")
        self.bad_walkers(8, eight + "\nwalker 1 1" * 20)
        self.bad_walkers(8, eight + "\nwalker 1 10")
        self.bad_walkers(2, "said 5" + "\nwalker 1 1" * 2 + "\nwalker 1 10" * 9)

    def test_words_are_refused_ahead_of_walkers(self):
        self.bad(2, "said 5\nwalker 1 10\nwalker 1 01")
        self.bad(2, "said 5\nwalker 1 10\n")
        self.bad(10, "said 5" + "\nwalker 1 1" * 9 + "\nwalker 1")
        self.bad(1, "said 5\nwalker 1 100")
        self.bad(1, "said 5\nwalker 100 1")


if __name__ == "__main__":
    unittest.main()
