"""Promise [12], and the interface, section insidecount/books.py."""

import inspect
import random
import unittest

from insidecount.books import played
from insidecount.errors import BadHouse, BadRow, BadTime
from insidecount.houses import House
from tests.helpers import house_after, some_step, standing, take


class PlayedTest(unittest.TestCase):
    def answers(self, numbers, book, found, stands):
        """Play a book; the answers are the found ones, and the house stands as told."""
        handed = list(book)
        told = played(*numbers, handed)
        self.assertIs(type(told), tuple)
        answers, house = told
        self.assertIs(type(answers), list)
        self.assertIs(type(house), House)
        self.assertEqual(answers, found)
        self.assertEqual(standing(house), stands)
        self.assertEqual(handed, list(book))

    def test_arguments(self):
        self.assertEqual(list(inspect.signature(played).parameters), ["badges", "late", "lost", "book"])

    def test_empty(self):
        self.answers((1, 0, 0), [], [], (0, [], None))

    def test_ticks(self):
        self.answers((1, 0, 0), ["0", "0", "7", "10", "60"], ["sound"] * 5, (60, [], None))

    def test_rows(self):
        book = ["1 0 1 in", "12 1 10 in", "12 0 12 out"]
        rows = [(0, 1, "in"), (0, 12, "out"), (1, 10, "in")]
        self.answers((2, 2, 0), book, ["sound"] * 3, (12, rows, None))

    def test_sound_and_broken_as_the_house_is_then(self):
        book = ["1 0 1 in", "4 0 4 in", "6", "7", "8 0 8 out"]
        rows = [(0, 1, "in"), (0, 4, "in"), (0, 8, "out")]
        self.answers((1, 3, 0), book, ["sound", "sound", "sound", "broken", "broken"], (8, rows, 3))
        self.answers((1, 3, 1), book, ["sound"] * 5, (8, rows, None))
        self.answers((1, 0, 6), ["1 0 1 out", "2"], ["broken", "broken"], (2, [(0, 1, "out")], 0))

    def test_the_numbers_go_to_the_house_in_their_order(self):
        house = played(2, 3, 1, ["4 1 1 in", "4 0 2 out"])[1]
        self.assertEqual(standing(house), (4, [(0, 2, "out"), (1, 1, "in")], None))
        house.tick(9)
        self.assertIsNone(house.broken())
        with self.assertRaises(BadRow):
            house.come(9, 2, 9, "in")
        with self.assertRaises(BadRow):
            house.come(9, 0, 5, "in")
        house.come(9, 0, 6, "in")
        house.come(11, 0, 9, "in")
        self.assertIsNone(house.broken())
        house.tick(12)
        self.assertEqual(house.broken(), 5)

    def test_bad_time(self):
        book = ["61", "5", "4", "0", "99", "5"]
        found = ["BadTime", "sound", "BadTime", "BadTime", "BadTime", "sound"]
        self.answers((1, 9, 0), book, found, (5, [], None))

    def test_bad_row(self):
        book = [
            "5 0 4 in", "4 0 4 out", "5 0 4 in", "5 0 4 out", "5 2 5 in", "5 0 0 in", "5 0 6 in", "8 1 5 in",
            "61 1 60 in",
            "9 1 9 In", "9 1 9 OUT", "9 1 9 inn", "9 1 9 i", "9 1 9 9", "9 1 9 ~!", "5",
        ]
        self.answers((2, 2, 0), book, ["sound"] + ["BadRow"] * 14 + ["sound"], (5, [(0, 4, "in")], None))

    def test_a_fourth_word_without_signs(self):
        self.answers((1, 2, 0), ["3 0 1 ", "1 0 1 in"], ["BadRow", "sound"], (1, [(0, 1, "in")], None))
        # A row that could not come with any word either.
        self.answers((1, 0, 0), ["99 99 99 "], ["BadRow"], (0, [], None))

    def test_bad_text(self):
        texts = [
            "", " ", "  ", "   ", "    ",
            "in", "tick", "x", "~",
            "3 0", "3 in", "3 0 1", "3 0 in", "3 0 3 in 3", "3 0 3 in in", "3 0 3 in 0 0 0 0",
            "3  0 3 in", "3 0  3 in", "3 0 3  in", "3  0  3  in", "3  0 3", "3 0  3", "3 0 1  ",
            " 3", "  3", " 3 0 3", " 3 0 3 in", " 0 3 in",
            "3 ", "3  ", "3   ", "3 0 3 in ", "3 0 3 in  ", "3 0 ", "3 0  ",
            "00", "03", "00 0 3 in", "03 0 3 in", "3 00 3 in", "3 0 03 in", "3 0 00 in", "3 01 3 in",
            "003", "010", "100", "060", "100 0 3 in", "3 100 3 in", "3 0 003 in", "3 000 3 in",
            "-1", "+3", "-0", "+3 0 3 in", "3 -1 3 in", "3 +0 3 in", "3 0 -3 in", "3 0 +3 in", "-3 0 3 in",
            "a", "3a", "a3", "1_0", "0x", "3.", ".3", "3.0", "1e", "3,", "3;", "(3", "3)", "'3", "/", ":", "3:",
            "x 0 3 in", "3 x 3 in", "3 0 x in", "3a 0 3 in", "3 0a 3 in", "3 0 3a in", "in 0 3 3",
            "3 in 0 3", "3 0 in 3",
            "3,0,3,in", "3-0-3-in", "3_0_3_in", "30 3in", "- 0 3 in", "3 - 3 in", "3 0 - in",
            "12345678901234567890", "x" * 60, " " * 60, "3 " * 30,
        ]
        for text in texts:
            with self.subTest(text=text):
                self.answers((1, 3, 0), [text], ["BadText"], (0, [], None))
        book = ["2"] + texts + ["3 0 3 in"]
        found = ["sound"] + ["BadText"] * len(texts) + ["sound"]
        self.answers((1, 3, 0), book, found, (3, [(0, 3, "in")], None))

    def test_numbers_of_one_and_two_figures(self):
        for time in range(61):
            self.answers((1, 0, 0), [str(time)], ["sound"], (time, [], None))
        for time in range(61, 100):
            self.answers((1, 0, 0), [str(time)], ["BadTime"], (0, [], None))
        for moment in range(1, 61):
            self.answers((6, 9, 6), [f"{moment} 5 {moment} in"], ["sound"], (moment, [(5, moment, "in")], None))
        for badge in range(6, 100):
            self.answers((6, 9, 6), [f"9 {badge} 9 in"], ["BadRow"], (0, [], None))

    def test_bad_text_goes_ahead_of_what_the_house_refuses(self):
        texts = ["4 9 03 in", "04 9 3 in", "4 9 3 in x", "4 9 3", "099", "3 09 9 up"]
        self.answers((1, 0, 0), ["5"] + texts, ["sound"] + ["BadText"] * 6, (5, [], None))

    def test_what_is_refused_has_no_number(self):
        book = ["x", "61", "1 0 1 in", "1 0 1 in", "2 0 2 in", "03"]
        found = ["BadText", "BadTime", "sound", "BadRow", "broken", "BadText"]
        self.answers((1, 0, 0), book, found, (2, [(0, 1, "in"), (0, 2, "in")], 1))

    def test_refusals_by_a_broken_house(self):
        book = ["1 0 1 out", "0", "1 0 1 in", "1 0", "2 0 2 "]
        self.answers((1, 0, 0), book, ["broken", "BadTime", "BadRow", "BadText", "BadRow"], (1, [(0, 1, "out")], 0))

    def test_bad_house(self):
        for numbers in ((0, 0, 0), (7, 0, 0), (-1, 0, 0), (1, -1, 0), (1, 10, 0), (1, 0, -1), (1, 0, 7)):
            for book in ([], ["0"], ["x"]):
                with self.subTest(numbers=numbers, book=book):
                    with self.assertRaises(BadHouse) as caught:
                        played(*numbers, book)
                    self.assertIs(type(caught.exception), BadHouse)
        for numbers in ((1, 0, 0), (6, 9, 6)):
            self.answers(numbers, ["60"], ["sound"], (60, [], None))

    def test_five_hundred_texts(self):
        book = ["7"] * 250 + ["x"] * 249 + ["8 0 8 in"]
        self.answers((1, 0, 0), book, ["sound"] * 250 + ["BadText"] * 249 + ["sound"], (8, [(0, 8, "in")], None))
        self.answers((1, 0, 0), ["7"] * 520, ["sound"] * 520, (7, [], None))

    def test_as_a_house_that_is_handed_the_same(self):
        chance = random.Random(41)
        seen = {}
        for turn in range(150):
            numbers = (chance.randint(1, 3), chance.randint(0, 3), chance.randint(0, 3))
            house = House(*numbers)
            book = []
            found = []
            for attempt in range(25):
                step = some_step(chance, house, numbers[0] + 1, 62)
                if chance.randint(0, 9) == 0:
                    step = (max(0, step[0] - 3), *step[1:])
                book.append(" ".join(str(part) for part in step))
                try:
                    take(house, [step])
                    found.append("sound" if house.broken() is None else "broken")
                except BadRow:
                    found.append("BadRow")
                except BadTime:
                    found.append("BadTime")
                seen[found[-1]] = seen.get(found[-1], 0) + 1
            self.answers(numbers, book, found, standing(house))
        self.assertEqual(sorted(seen), ["BadRow", "BadTime", "broken", "sound"])
        self.assertGreater(min(seen.values()), 50, seen)

    def test_the_house_goes_on(self):
        house = played(2, 1, 0, ["2 0 2 in", "x"])[1]
        house.come(3, 0, 3, "out")
        self.assertEqual(standing(house), standing(house_after((2, 1, 0), [(2, 0, 2, "in"), (3, 0, 3, "out")])))


if __name__ == "__main__":
    unittest.main()
