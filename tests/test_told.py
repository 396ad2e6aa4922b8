"""Promise [1] over the whole program: nothing is changed or kept, and the same is told again."""

import random
import unittest

from insidecount.books import played
from insidecount.errors import HouseError
from insidecount.houses import House
from insidecount.looks import looks
from insidecount.worlds import count, inside, is_sound, stories, two, wants
from tests.helpers import house_after, some_house, standing, take


def answer(ask, *arguments):
    """What is told, or the name of what it is refused with."""
    try:
        return ask(*arguments)
    except HouseError as refused:
        return refused.__class__.__name__


def all_told(house, badges):
    """All that can be asked of a house, also what is refused."""
    told = [standing(house), is_sound(house), wants(house)]
    for moment in range(house.time() + 2):
        told.append(answer(count, house, moment))
        for badge in range(badges + 1):
            told.append((answer(inside, house, badge, moment), answer(two, house, badge, moment)))
    for badge in range(badges + 1):
        told.append((answer(stories, house, badge), answer(looks, house, badge)))
    return told


def spoil(told):
    """Change a list in each way that changes it."""
    told.append("more")
    told[0] = "other"
    told.reverse()
    told.pop()
    told.insert(0, 7)


class ToldTest(unittest.TestCase):
    def house(self):
        return house_after((2, 1, 2), [(1, 0, 1, "in"), (3, 0, 3, "in"), (4, 1, 4, "in"), (5,)])

    def stays(self, ask, *arguments):
        before = list(ask(*arguments))
        self.assertGreater(len(before), 0)
        spoil(ask(*arguments))
        self.assertEqual(ask(*arguments), before)
        ask(*arguments).clear()
        self.assertEqual(ask(*arguments), before)

    def test_lists_that_were_told_may_be_changed(self):
        house = self.house()
        before = all_told(house, 2)
        self.stays(house.rows)
        self.stays(wants, house)
        for badge in (0, 1):
            self.stays(stories, house, badge)
            self.stays(lambda: looks(house, badge)[1])
        self.assertEqual(all_told(house, 2), before)

    def test_lists_that_were_told_stay(self):
        house = self.house()
        told = (house.rows(), wants(house), stories(house, 0), looks(house, 0))
        copies = (list(told[0]), list(told[1]), list(told[2]), (told[3][0], list(told[3][1])))
        take(house, [(5, 1, 5, "out"), (9, 0, 9, "out"), (9, 1, 9, "out"), (20,)])
        self.assertEqual(told, copies)

    def test_a_changed_list_does_not_change_what_comes(self):
        house = self.house()
        house.rows().clear()
        wants(house).clear()
        stories(house, 0).clear()
        looks(house, 0)[1].clear()
        take(house, [(9, 0, 9, "out")])
        other = self.house()
        take(other, [(9, 0, 9, "out")])
        self.assertEqual(all_told(house, 2), all_told(other, 2))

    def test_asking_changes_nothing(self):
        chance = random.Random(51)
        for turn in range(25):
            numbers = (chance.randint(1, 3), chance.randint(0, 2), chance.randint(0, 3))
            state = chance.getstate()
            asked = some_house(chance, numbers, 8, 12)
            chance.setstate(state)
            other = some_house(chance, numbers, 8, 12)
            first = all_told(asked, numbers[0])
            self.assertEqual(all_told(asked, numbers[0]), first)
            self.assertEqual(all_told(other, numbers[0]), first)
            for house in (asked, other):
                take(house, [(20, 0, 20, "in")])
            self.assertEqual(all_told(asked, numbers[0]), all_told(other, numbers[0]))

    def test_as_the_house_stands_then(self):
        house = House(1, 0, 0)
        self.assertEqual(stories(house, 0), [()])
        house.come(1, 0, 1, "in")
        self.assertEqual((stories(house, 0), inside(house, 0, 1), count(house, 1)), ([(1,)], 1, (1, 1)))
        house.tick(2)
        self.assertEqual((stories(house, 0), inside(house, 0, 2), count(house, 2)), ([(1, 0), (1, 1)], None, (0, 1)))
        self.assertEqual(looks(house, 0), ((2,), [((), (1, 0), (1, 1))]))
        house.come(2, 0, 2, "out")
        self.assertEqual((stories(house, 0), inside(house, 0, 2), two(house, 0, 2)), ([(1, 0)], 0, None))
        house.come(3, 0, 3, "out")
        self.assertEqual((wants(house), is_sound(house)), ([(0, 2, 3, "twice")], False))

    def test_two_houses_have_nothing_in_common(self):
        one = self.house()
        other = self.house()
        before = all_told(other, 2)
        take(one, [(6, 0, 6, "in"), (6, 0, 5, "in")])
        self.assertIs(is_sound(one), False)
        all_told(one, 2)
        self.assertEqual(all_told(other, 2), before)
        self.assertEqual(all_told(self.house(), 2), before)

    def test_houses_of_other_numbers_are_told_apart(self):
        steps = [(1, 0, 1, "in"), (4,)]
        tight = house_after((1, 0, 0), steps)
        loose = house_after((1, 2, 1), steps)
        self.assertEqual(inside(tight, 0, 2), 1)
        self.assertIsNone(inside(loose, 0, 2))
        self.assertEqual(inside(tight, 0, 2), 1)
        self.assertEqual((len(stories(tight, 0)), len(stories(loose, 0))), (2, 8))


class PlayedTest(unittest.TestCase):
    book = ["1 0 1 in", "x", "3 0 3 in", "61", "4 1 4 in", "4 1 4 out", "5"]

    def test_the_book_stays(self):
        book = list(self.book)
        played(2, 1, 2, book)
        self.assertEqual(book, self.book)

    def test_the_book_may_be_changed_later(self):
        book = list(self.book)
        answers, house = played(2, 1, 2, book)
        told = list(answers)
        before = all_told(house, 2)
        book.clear()
        book.append("9 0 9 out")
        self.assertEqual(answers, told)
        self.assertEqual(all_told(house, 2), before)

    def test_answers_may_be_changed(self):
        answers, house = played(2, 1, 2, self.book)
        told = list(answers)
        before = all_told(house, 2)
        spoil(answers)
        self.assertEqual(all_told(house, 2), before)
        self.assertEqual(played(2, 1, 2, self.book)[0], told)

    def test_played_again(self):
        answers, house = played(2, 1, 2, self.book)
        before = all_told(house, 2)
        again, other = played(2, 1, 2, self.book)
        self.assertEqual(again, answers)
        self.assertIsNot(again, answers)
        self.assertIsNot(other, house)
        self.assertEqual(all_told(other, 2), before)
        take(other, [(6, 0, 6, "in"), (6, 0, 5, "in")])
        self.assertEqual(all_told(house, 2), before)


if __name__ == "__main__":
    unittest.main()
