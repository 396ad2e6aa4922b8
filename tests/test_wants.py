"""Promises [6] and [7], as far as they speak of wants and is_sound."""

import random
import unittest

from insidecount.houses import House
from insidecount.worlds import is_sound, wants
from tests.helpers import has_world, house_after, lived_house, priced_stories, rows_of, some_house, sound_houses, take


def wants_by_words(house, badges, late):
    """All wants of a house by the words of [6] and [7]."""
    found = []
    for badge in range(badges):
        rows = [(0, "out")] + sorted(rows_of(house, badge).items())
        for (start, word), (end, next_word) in zip(rows, rows[1:]):
            between = range(start + 1, end)
            if word != next_word:
                continue
            if len(between) == 0:
                found.append((badge, start, end, "twice"))
            elif all(moment + late < house.time() for moment in between):
                found.append((badge, start, end, "lost"))
    return sorted(found)


class WantsTest(unittest.TestCase):
    def wanted(self, numbers, steps, found, sound):
        house = house_after(numbers, steps)
        told = wants(house)
        self.assertEqual(told, found, (numbers, steps))
        self.assertIs(type(told), list)
        self.assertEqual([type(want) for want in told], [tuple] * len(found))
        self.assertIs(is_sound(house), sound, (numbers, steps))

    def test_nothing_at_first(self):
        for numbers in ((1, 0, 0), (6, 9, 6)):
            self.wanted(numbers, [], [], True)
            self.wanted(numbers, [(0,)], [], True)
            self.wanted(numbers, [(60,)], [], True)

    def test_nothing_by_turns(self):
        steps = [(1, 0, 1, "in"), (2, 0, 2, "out"), (9, 0, 9, "in"), (30, 0, 30, "out"), (60,)]
        self.wanted((1, 0, 0), steps, [], True)
        self.wanted((1, 0, 0), [(8, 0, 8, "in"), (60,)], [], True)

    def test_twice_side_by_side(self):
        self.wanted((1, 9, 6), [(1, 0, 1, "in"), (2, 0, 2, "in")], [(0, 1, 2, "twice")], False)
        self.wanted((1, 0, 6), [(5, 0, 5, "in"), (6, 0, 6, "out"), (7, 0, 7, "out")], [(0, 6, 7, "twice")], False)

    def test_twice_behind_moment_0(self):
        self.wanted((1, 9, 6), [(1, 0, 1, "out")], [(0, 0, 1, "twice")], False)
        self.wanted((1, 0, 6), [(1, 0, 1, "out"), (60,)], [(0, 0, 1, "twice")], False)

    def test_twice_stays_twice_when_it_is_late(self):
        for time in (2, 11, 12, 60):
            steps = [(1, 0, 1, "in"), (2, 0, 2, "in"), (time,)]
            self.wanted((1, 9, 6), steps, [(0, 1, 2, "twice")], False)

    def test_lost_just_at_the_bound_and_one_time_later(self):
        for late in range(10):
            with self.subTest(late=late):
                steps = [(1, 0, 1, "in"), (4, 0, 4, "in")]
                may_come = [(3 + late,)] if late else []
                if late:
                    self.wanted((1, late, 0), steps + may_come, [], True)
                self.wanted((1, late, 0), steps + may_come + [(4 + late,)], [(0, 1, 4, "lost")], False)
                self.wanted((1, late, 1), steps + may_come + [(4 + late,)], [(0, 1, 4, "lost")], True)

    def test_lost_behind_moment_0(self):
        self.wanted((1, 2, 0), [(3, 0, 3, "out"), (4,)], [], True)
        self.wanted((1, 2, 0), [(3, 0, 3, "out"), (5,)], [(0, 0, 3, "lost")], False)
        self.wanted((1, 0, 1), [(2, 0, 2, "out")], [(0, 0, 2, "lost")], True)

    def test_lost_of_two_words(self):
        steps = [(1, 0, 1, "in"), (3, 0, 3, "in"), (4, 0, 4, "out"), (9, 0, 9, "out")]
        self.wanted((1, 0, 2), steps, [(0, 1, 3, "lost"), (0, 4, 9, "lost")], True)
        self.wanted((1, 0, 1), steps, [(0, 1, 3, "lost"), (0, 4, 9, "lost")], False)

    def test_three_alike_want_two(self):
        steps = [(1, 0, 1, "in"), (3, 0, 3, "in"), (5, 0, 5, "in")]
        self.wanted((1, 0, 2), steps, [(0, 1, 3, "lost"), (0, 3, 5, "lost")], True)

    def test_some_lost_while_some_may_come(self):
        steps = [(3, 0, 3, "out"), (5, 0, 5, "out"), (6,)]
        self.wanted((1, 2, 1), steps, [(0, 0, 3, "lost")], True)
        self.wanted((1, 2, 1), steps + [(7,)], [(0, 0, 3, "lost"), (0, 3, 5, "lost")], False)

    def test_a_late_row_ends_a_want(self):
        self.wanted((1, 3, 0), [(1, 0, 1, "in"), (4, 0, 4, "in"), (6, 0, 3, "out"), (60,)], [], True)

    def test_a_late_row_makes_a_want(self):
        steps = [(1, 0, 1, "in"), (3, 0, 3, "out"), (4, 0, 2, "out")]
        self.wanted((1, 3, 6), steps, [(0, 2, 3, "twice")], False)

    def test_of_several_badges_rising(self):
        steps = [(2, 2, 2, "out"), (3, 0, 3, "out"), (4, 1, 4, "in"), (5, 0, 5, "out"), (5, 1, 5, "in")]
        steps.append((12, 0, 12, "out"))
        found = [(0, 0, 3, "lost"), (0, 3, 5, "lost"), (0, 5, 12, "lost"), (1, 4, 5, "twice"), (2, 0, 2, "lost")]
        self.wanted((3, 0, 6), steps, found, False)
        without_twice = [step for step in steps if step != (5, 1, 5, "in")]
        found.remove((1, 4, 5, "twice"))
        self.wanted((3, 0, 4), without_twice, found, True)
        self.wanted((3, 0, 3), without_twice, found, False)

    def test_lost_behind_moment_10(self):
        steps = [(9, 0, 9, "in"), (11, 0, 11, "in"), (20, 0, 20, "in")]
        self.wanted((1, 0, 6), steps, [(0, 9, 11, "lost"), (0, 11, 20, "lost")], True)

    def test_rows_of_other_badges_settle_nothing(self):
        steps = [(1, 0, 1, "in"), (2, 1, 2, "in"), (3, 0, 3, "in"), (3, 1, 3, "out")]
        self.wanted((2, 0, 1), steps, [(0, 1, 3, "lost")], True)

    def test_as_many_as_the_bound(self):
        for lost in range(7):
            house = House(6, 0, lost)
            for badge in range(6):
                house.come(2, badge, 2, "out")
                self.assertIs(is_sound(house), badge + 1 <= lost, (lost, badge))

    def test_against_the_words(self):
        chance = random.Random(11)
        words = {"twice": 0, "lost": 0}
        for turn in range(400):
            numbers = (chance.randint(1, 6), chance.randint(0, 9), chance.randint(0, 6))
            house = some_house(chance, numbers, chance.randint(0, 30), 60)
            told = wants(house)
            self.assertEqual(told, wants_by_words(house, *numbers[:2]), (numbers, house.rows()))
            for want in told:
                words[want[3]] += 1
        self.assertGreater(min(words.values()), 200, words)

    def test_sound_is_to_have_a_world(self):
        chance = random.Random(12)
        ends = {True: 0, False: 0}
        for turn in range(500):
            numbers = (chance.randint(1, 3), chance.randint(0, 3), chance.randint(0, 3))
            house = some_house(chance, numbers, chance.randint(0, 8), 7)
            sound = has_world(house, numbers)
            self.assertIs(is_sound(house), sound, (numbers, house.rows(), house.time()))
            self.assertIs(house.broken() is None, sound, (numbers, house.rows(), house.time()))
            ends[sound] += 1
        self.assertGreater(min(ends.values()), 100, ends)

    def test_the_cheapest_stories_lose_as_many_rows(self):
        many = 0
        for numbers, house in sound_houses(13, 400):
            badges, late, lost = numbers
            least = sum(min(price for story, price in priced_stories(house, badge, late)) for badge in range(badges))
            self.assertEqual(len(wants(house)), least, (numbers, house.rows(), house.time()))
            many += least
        self.assertGreater(many, 50)

    def test_what_happened_is_sound(self):
        chance = random.Random(14)
        for turn in range(40):
            numbers = (6, chance.randint(0, 9), chance.randint(0, 6))
            house = lived_house(chance, numbers, chance.randint(40, 60))
            self.assertIs(is_sound(house), True, (numbers, house.rows()))
            self.assertIsNone(house.broken())

    def test_told_of_a_house_that_is_not_sound(self):
        house = house_after((2, 0, 0), [(1, 0, 1, "out")])
        self.assertEqual(wants(house), [(0, 0, 1, "twice")])
        take(house, [(3, 1, 3, "out"), (60,)])
        self.assertEqual(wants(house), [(0, 0, 1, "twice"), (1, 0, 3, "lost")])
        self.assertIs(is_sound(house), False)


if __name__ == "__main__":
    unittest.main()
