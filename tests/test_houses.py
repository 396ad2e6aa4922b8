"""Promises [1], [2] and [3], and the interface, section insidecount/houses.py."""

import inspect
import itertools
import unittest

from insidecount.errors import BadHouse, BadRow, BadTime
from insidecount.houses import House
from tests.helpers import house_after, standing, take


class InterfaceTest(unittest.TestCase):
    def test_each_listed_method_stands_in_house_itself(self):
        listed = {
            "__init__": ["self", "badges", "late", "lost"],
            "come": ["self", "time", "badge", "moment", "word"],
            "tick": ["self", "time"],
            "time": ["self"],
            "rows": ["self"],
            "broken": ["self"],
        }
        for name, arguments in listed.items():
            with self.subTest(name=name):
                self.assertIn(name, vars(House))
                self.assertEqual(list(inspect.signature(vars(House)[name]).parameters), arguments)

    def test_arguments_by_their_names(self):
        house = House(badges=2, late=3, lost=1)
        house.come(time=4, badge=1, moment=2, word="in")
        house.tick(time=5)
        self.assertEqual(standing(house), (5, [(1, 2, "in")], None))


class NumbersTest(unittest.TestCase):
    def refused(self, *numbers):
        with self.subTest(numbers=numbers):
            with self.assertRaises(BadHouse) as caught:
                House(*numbers)
            self.assertIs(type(caught.exception), BadHouse)

    def test_badges_outside(self):
        for badges in (-1000, -1, 0, 7, 8, 1000):
            self.refused(badges, 3, 2)

    def test_late_outside(self):
        for late in (-1000, -2, -1, 10, 11, 1000):
            self.refused(3, late, 2)

    def test_lost_outside(self):
        for lost in (-1000, -2, -1, 7, 8, 1000):
            self.refused(3, 3, lost)

    def test_all_within_are_taken_and_stand_at_first(self):
        for numbers in itertools.product(range(1, 7), range(10), range(7)):
            with self.subTest(numbers=numbers):
                self.assertEqual(standing(House(*numbers)), (0, [], None))


class TakenTest(unittest.TestCase):
    def test_tick(self):
        house = House(1, 0, 0)
        for time in (0, 0, 1, 7, 7, 59, 60, 60):
            self.assertIsNone(house.tick(time))
            self.assertEqual(standing(house), (time, [], None))
            self.assertIs(type(house.time()), int)

    def test_come(self):
        house = House(2, 2, 0)
        self.assertIsNone(house.come(1, 1, 1, "in"))
        self.assertEqual(standing(house), (1, [(1, 1, "in")], None))
        self.assertIsNone(house.come(4, 0, 4, "in"))
        self.assertEqual(standing(house), (4, [(0, 4, "in"), (1, 1, "in")], None))
        self.assertIsNone(house.come(4, 1, 3, "out"))
        self.assertEqual(standing(house), (4, [(0, 4, "in"), (1, 1, "in"), (1, 3, "out")], None))
        self.assertIsNone(house.come(60, 0, 60, "out"))
        rows = [(0, 4, "in"), (0, 60, "out"), (1, 1, "in"), (1, 3, "out")]
        self.assertEqual(standing(house), (60, rows, None))

    def test_rows_rise_in_whatever_order_they_came(self):
        rows = [(0, 2, "in"), (0, 10, "out"), (1, 9, "in"), (2, 2, "in"), (2, 3, "out")]
        for order in itertools.permutations(rows):
            house = house_after((3, 9, 6), [(10, *row) for row in order])
            told = house.rows()
            self.assertEqual(told, rows)
            self.assertIs(type(told), list)
            self.assertEqual([type(row) for row in told], [tuple] * len(rows))

    def test_one_moment_of_several_badges(self):
        house = house_after((6, 0, 0), [(1, badge, 1, "in") for badge in range(6)])
        self.assertEqual(standing(house), (1, [(badge, 1, "in") for badge in range(6)], None))

    def test_each_late_bound_at_its_edges(self):
        for late in range(10):
            for moment in (20 - late, 20):
                with self.subTest(late=late, moment=moment):
                    house = House(1, late, 6)
                    house.come(20, 0, moment, "in")
                    self.assertEqual(standing(house), (20, [(0, moment, "in")], None))

    def test_houses_stand_apart(self):
        one = House(1, 0, 0)
        other = House(1, 0, 0)
        one.come(1, 0, 1, "out")
        self.assertEqual(standing(one), (1, [(0, 1, "out")], 0))
        self.assertEqual(standing(other), (0, [], None))
        self.assertEqual(standing(House(1, 0, 0)), (0, [], None))


class RefusedTest(unittest.TestCase):
    def refuses(self, house, error, steps):
        before = standing(house)
        for step in steps:
            with self.subTest(step=step):
                with self.assertRaises(error) as caught:
                    take(house, [step])
                self.assertIs(type(caught.exception), error)
                self.assertEqual(standing(house), before)

    def house(self):
        return house_after((3, 4, 0), [(7, 1, 4, "in"), (10, 1, 9, "out")])

    def test_tick(self):
        self.refuses(self.house(), BadTime, [(9,), (0,), (-1,), (-50,), (61,), (62,), (1000,)])
        self.refuses(House(1, 9, 0), BadTime, [(-1,), (61,)])
        self.refuses(house_after((1, 9, 0), [(60,)]), BadTime, [(59,), (61,)])

    def test_time_of_a_row(self):
        self.refuses(self.house(), BadRow, [(9, 0, 9, "in"), (8, 0, 8, "in"), (-1, 0, 1, "in"), (0, 0, 1, "in")])
        self.refuses(self.house(), BadRow, [(61, 0, 60, "in"), (61, 0, 61, "in"), (100, 0, 98, "in")])

    def test_badge(self):
        self.refuses(self.house(), BadRow, [(12, badge, 11, "in") for badge in (-100, -3, -1, 3, 4, 100)])
        for badges in range(1, 7):
            self.refuses(House(badges, 4, 0), BadRow, [(5, -1, 5, "in"), (5, badges, 5, "in")])

    def test_moment_that_there_is_not(self):
        house = House(1, 9, 0)
        self.refuses(house, BadRow, [(0, 0, 0, "in"), (1, 0, 0, "in"), (3, 0, -1, "in"), (2, 0, -50, "out")])

    def test_moment_above_the_time(self):
        self.refuses(self.house(), BadRow, [(10, 0, 11, "in"), (10, 0, 40, "in"), (12, 0, 13, "in")])
        self.refuses(House(1, 9, 0), BadRow, [(0, 0, 1, "in")])

    def test_moment_too_far_below_the_time(self):
        self.refuses(self.house(), BadRow, [(10, 0, 5, "in"), (10, 0, 1, "in"), (12, 0, 7, "in"), (60, 0, 55, "in")])
        for late in range(10):
            self.refuses(House(1, late, 0), BadRow, [(20, 0, 19 - late, "in"), (20, 0, 1, "in")])

    def test_word(self):
        words = ("In", "IN", "Out", "", " ", "in ", " out", "i", "n", "ou", "inout", "in out", "1", "inside")
        self.refuses(self.house(), BadRow, [(12, 0, 11, word) for word in words])

    def test_moment_of_which_a_row_has_come(self):
        self.refuses(self.house(), BadRow, [(10, 1, 9, "out"), (10, 1, 9, "in"), (13, 1, 9, "out"), (13, 1, 9, "in")])
        self.refuses(house_after((1, 9, 0), [(5, 0, 3, "in")]), BadRow, [(6, 0, 3, "in"), (6, 0, 3, "out")])

    def test_refused_by_a_broken_house_too(self):
        house = house_after((1, 0, 0), [(1, 0, 1, "out")])
        self.refuses(house, BadTime, [(0,), (61,)])
        self.refuses(house, BadRow, [(1, 0, 1, "in"), (2, 0, 1, "in"), (2, 1, 2, "in"), (2, 0, 2, "")])

    def test_what_was_refused_may_come_rightly(self):
        house = self.house()
        self.refuses(house, BadRow, [(20, 0, 10, "in"), (10, 0, 10, "In"), (10, 3, 10, "in")])
        self.refuses(house, BadTime, [(61,)])
        house.come(10, 0, 10, "in")
        self.assertEqual(standing(house), (10, [(0, 10, "in"), (1, 4, "in"), (1, 9, "out")], None))

    def test_refused_has_no_number(self):
        house = House(1, 1, 0)
        self.refuses(house, BadTime, [(-1,), (61,)])
        house.come(1, 0, 1, "in")
        self.refuses(house, BadRow, [(1, 0, 1, "in"), (1, 0, 1, "out"), (9, 0, 9, "")])
        house.tick(1)
        self.refuses(house, BadTime, [(0,), (61,)])
        house.come(2, 0, 2, "in")
        self.assertEqual(house.broken(), 2)

    def test_refused_time_makes_no_row_lost(self):
        house = house_after((1, 1, 0), [(2, 0, 2, "out")])
        self.refuses(house, BadRow, [(9, 1, 9, "in"), (9, 0, 2, "in"), (9, 0, 9, "on")])
        self.refuses(house, BadTime, [(61,)])
        house.come(2, 0, 1, "in")
        self.assertEqual(standing(house), (2, [(0, 1, "in"), (0, 2, "out")], None))


class ToldTest(unittest.TestCase):
    def test_a_list_that_was_told_may_be_changed(self):
        house = house_after((2, 3, 0), [(3, 0, 2, "in"), (3, 1, 1, "in")])
        before = [(0, 2, "in"), (1, 1, "in")]
        told = house.rows()
        told.append((0, 3, "out"))
        self.assertEqual(standing(house), (3, before, None))
        told = house.rows()
        told[0] = (0, 1, "out")
        self.assertEqual(standing(house), (3, before, None))
        house.rows().clear()
        self.assertEqual(standing(house), (3, before, None))
        house.come(3, 0, 3, "out")
        self.assertEqual(standing(house), (3, [(0, 2, "in"), (0, 3, "out"), (1, 1, "in")], None))

    def test_a_list_that_was_told_stays(self):
        house = house_after((1, 3, 0), [(3, 0, 2, "in")])
        told = house.rows()
        house.come(3, 0, 3, "out")
        self.assertEqual(told, [(0, 2, "in")])

    def test_a_changed_first_list_is_not_kept(self):
        house = House(1, 0, 0)
        house.rows().append((0, 1, "out"))
        house.tick(1)
        self.assertEqual(standing(house), (1, [], None))

    def test_asked_again(self):
        house = house_after((2, 3, 0), [(3, 0, 2, "out"), (3, 1, 1, "out"), (4,)])
        first = standing(house)
        self.assertEqual(first, (4, [(0, 2, "out"), (1, 1, "out")], 1))
        for again in range(3):
            self.assertEqual(standing(house), first)


if __name__ == "__main__":
    unittest.main()
