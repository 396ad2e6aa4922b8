"""Promise [7] as far as it speaks of broken and is_sound, with [4] to [6] for what sound is."""

import random
import unittest

from insidecount.errors import HouseError
from insidecount.houses import House
from insidecount.worlds import is_sound
from tests.helpers import has_world, house_after, some_step, standing, take


class BrokenTest(unittest.TestCase):
    def breaks(self, numbers, steps, wanted):
        """broken behind each step is None ahead of the number that is wanted, and that number from there on."""
        house = House(*numbers)
        for number, step in enumerate(steps):
            take(house, [step])
            now = None if wanted is None or number < wanted else wanted
            self.assertEqual(house.broken(), now, (numbers, steps[: number + 1]))
            self.assertIs(is_sound(house), now is None, (numbers, steps[: number + 1]))

    def test_none_while_sound(self):
        self.breaks((1, 0, 0), [(0,), (1, 0, 1, "in"), (2, 0, 2, "out"), (9, 0, 9, "in"), (60,)], None)
        self.breaks((2, 0, 0), [(1, 0, 1, "in"), (2, 1, 2, "in"), (3, 0, 3, "out"), (3, 1, 3, "out")], None)

    def test_twice_side_by_side(self):
        self.breaks((1, 9, 6), [(1, 0, 1, "in"), (2, 0, 2, "in"), (3,)], 1)
        self.breaks((1, 9, 6), [(1, 0, 1, "in"), (2, 0, 2, "out"), (3, 0, 3, "out"), (3,)], 2)

    def test_twice_by_a_first_out(self):
        self.breaks((1, 9, 6), [(1, 0, 1, "out"), (2,)], 0)
        self.breaks((2, 9, 6), [(0,), (1, 0, 1, "in"), (2, 1, 1, "out")], 2)

    def test_twice_by_a_late_row(self):
        self.breaks((1, 9, 6), [(3, 0, 3, "in"), (3, 0, 2, "in")], 1)
        self.breaks((1, 9, 6), [(1, 0, 1, "in"), (3, 0, 3, "in"), (4, 0, 2, "in")], 2)
        self.breaks((1, 9, 6), [(3, 0, 2, "out"), (4, 0, 1, "out")], 1)

    def test_side_by_side_of_two_badges_is_sound(self):
        self.breaks((2, 0, 0), [(1, 0, 1, "in"), (2, 1, 2, "in"), (60,)], None)

    def test_lost_at_once(self):
        self.breaks((1, 0, 0), [(2, 0, 2, "out"), (3,)], 0)
        self.breaks((1, 0, 0), [(1, 0, 1, "in"), (3, 0, 3, "in")], 1)
        self.breaks((1, 1, 0), [(1, 0, 1, "in"), (4, 0, 3, "in")], 1)

    def test_lost_by_a_later_time(self):
        self.breaks((1, 1, 0), [(2, 0, 2, "out"), (2,), (3,)], 2)
        self.breaks((1, 3, 0), [(1, 0, 1, "in"), (4, 0, 4, "in"), (5,), (6,), (6,), (7,), (8,)], 5)
        self.breaks((1, 9, 0), [(2, 0, 2, "out"), (10,), (11,)], 2)

    def test_lost_by_the_time_of_another_badges_row(self):
        self.breaks((2, 1, 0), [(2, 0, 2, "out"), (2, 1, 2, "in"), (3, 1, 3, "out")], 2)

    def test_as_many_lost_as_may_be(self):
        for lost in range(7):
            steps = [(2 * at, 0, 2 * at, "out") for at in range(1, 9)]
            self.breaks((1, 0, lost), steps, lost)

    def test_lost_of_all_badges_together(self):
        steps = [(2, badge, 2, "out") for badge in range(6)]
        for lost in range(6):
            self.breaks((6, 0, lost), steps, lost)
        self.breaks((6, 0, 6), steps, None)

    def test_several_lost_by_one_tick(self):
        steps = [(2, 0, 2, "out"), (3, 1, 3, "out"), (4,), (12,)]
        self.breaks((2, 3, 1), steps, 3)
        self.breaks((2, 3, 2), steps, None)

    def test_one_want_is_one_lost_row_however_wide(self):
        self.breaks((1, 0, 1), [(1, 0, 1, "in"), (40, 0, 40, "in"), (60,)], None)
        self.breaks((1, 0, 1), [(40, 0, 40, "out"), (60,)], None)

    def test_a_late_row_settles_a_want(self):
        wanting = [(1, 0, 1, "in"), (4, 0, 4, "in")]
        self.breaks((1, 3, 0), wanting + [(6, 0, 3, "out"), (60,)], None)
        self.breaks((1, 3, 0), wanting + [(5, 0, 2, "out"), (60,)], None)
        self.breaks((1, 3, 0), wanting + [(60,)], 2)
        self.breaks((1, 1, 0), [(2, 0, 2, "out"), (2, 0, 1, "in"), (60,)], None)

    def test_a_late_row_makes_a_want(self):
        self.breaks((1, 3, 0), [(1, 0, 1, "in"), (5, 0, 5, "out"), (5, 0, 3, "out"), (7,), (8,)], 4)
        self.breaks((1, 9, 1), [(1, 0, 1, "in"), (5, 0, 5, "in"), (6, 0, 3, "in"), (11,), (12,), (13,), (14,)], 6)

    def test_later_ones_are_taken_behind_a_break(self):
        house = house_after((2, 2, 0), [(1, 0, 1, "out"), (3, 1, 2, "in"), (5,), (6, 0, 6, "in"), (6, 0, 5, "in")])
        rows = [(0, 1, "out"), (0, 5, "in"), (0, 6, "in"), (1, 2, "in")]
        self.assertEqual(standing(house), (6, rows, 0))
        house.tick(60)
        self.assertEqual(standing(house), (60, rows, 0))

    def test_as_the_words_of_worlds_say(self):
        chance = random.Random(7)
        ends = {"sound": 0, "broken": 0}
        many = 0
        for turn in range(400):
            numbers = (chance.randint(1, 2), chance.randint(0, 3), chance.randint(0, 2))
            house = House(*numbers)
            taken = []
            wanted = None
            # A bounded number of tries: a house that refuses too much must fail this test, not hang it.
            for attempt in range(12):
                step = some_step(chance, house, numbers[0], 7)
                try:
                    take(house, [step])
                except HouseError:
                    continue
                if wanted is None and not has_world(house, numbers):
                    wanted = len(taken)
                taken.append(step)
                self.assertEqual(house.broken(), wanted, (numbers, taken))
                self.assertIs(is_sound(house), has_world(house, numbers), (numbers, taken))
            many += len(taken)
            ends["sound" if wanted is None else "broken"] += 1
        self.assertGreater(min(ends.values()), 50, ends)
        self.assertGreater(many, 2000)


if __name__ == "__main__":
    unittest.main()
