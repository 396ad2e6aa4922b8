"""Promise [11], and the interface, section insidecount/looks.py."""

import inspect
import itertools
import random
import unittest

from insidecount.errors import TooMany
from insidecount.houses import House
from insidecount.looks import looks
from insidecount.worlds import stories
from tests.helpers import house_after, lived_house, sound_houses, worlds_of


def varying(known):
    return [at + 1 for at in range(len(known[0])) if len({story[at] for story in known}) > 1]


def choices_in_order(moments):
    for size in range(len(moments) + 1):
        yield from itertools.combinations(moments, size)


def seen_at(story, choice):
    return [story[moment - 1] for moment in choice]


def settles(known, choice):
    return len({tuple(seen_at(story, choice)) for story in known}) == len(known)


class LooksTest(unittest.TestCase):
    def checked(self, house, badge, known):
        """What looks tells, if it is as it must be for these stories."""
        case = (house.rows(), house.time(), badge)
        told = looks(house, badge)
        self.assertIs(type(told), tuple, case)
        moments, pairs = told
        self.assertIs(type(moments), tuple, case)
        self.assertIs(type(pairs), list, case)
        ahead = []
        for choice in choices_in_order(varying(known)):
            if settles(known, choice):
                self.assertEqual(moments, choice, case)
                break
            ahead.append(choice)
        self.assertEqual([pair[0] for pair in pairs], ahead, case)
        for pair in pairs:
            self.assertIs(type(pair), tuple, case)
            choice, one, other = pair
            self.assertEqual([type(part) for part in pair], [tuple, tuple, tuple], case)
            self.assertLess(one, other, case)
            self.assertIn(one, known, case)
            self.assertIn(other, known, case)
            self.assertEqual(seen_at(one, choice), seen_at(other, choice), case)
        self.assertEqual(looks(house, badge), told, case)
        return told

    def refused(self, house, badge):
        with self.assertRaises(TooMany) as caught:
            looks(house, badge)
        self.assertIs(type(caught.exception), TooMany)

    def test_arguments(self):
        self.assertEqual(list(inspect.signature(looks).parameters), ["house", "badge"])

    def test_one_story(self):
        self.assertEqual(looks(House(1, 0, 0), 0), ((), []))
        self.assertEqual(looks(House(6, 9, 6), 5), ((), []))
        self.assertEqual(looks(house_after((1, 0, 0), [(1, 0, 1, "in"), (2, 0, 2, "out")]), 0), ((), []))

    def test_two_stories(self):
        house = house_after((1, 0, 0), [(1,)])
        self.assertEqual(looks(house, 0), ((1,), [((), (0,), (1,))]))
        house = house_after((1, 0, 0), [(3,)])
        self.assertEqual(looks(house, 0), ((3,), [((), (0, 0, 0), (0, 0, 1))]))

    def test_choices_are_in_order(self):
        house = house_after((1, 0, 2), [(4, 0, 4, "in")])
        known = [(0, 0, 0, 1), (0, 1, 0, 1), (1, 0, 0, 1), (1, 1, 0, 1)]
        self.assertEqual(stories(house, 0), known)
        moments, pairs = self.checked(house, 0, known)
        self.assertEqual(moments, (1, 2))
        self.assertEqual([choice for choice, one, other in pairs], [(), (1,), (2,)])

    def test_choices_of_one_size_ahead(self):
        # Out at moment 4 wants one passing among the moments 1 to 3; the moment of the time is free.
        house = house_after((1, 0, 1), [(4, 0, 4, "out"), (6,)])
        known = sorted((*past, 0, 0, last) for past in ((0, 0, 1), (0, 1, 1), (1, 1, 1)) for last in (0, 1))
        moments, pairs = self.checked(house, 0, known)
        self.assertEqual(moments, (1, 2, 6))
        self.assertEqual([choice for choice, one, other in pairs], [(), (1,), (2,), (6,), (1, 2), (1, 6), (2, 6)])

    def test_a_moment_at_which_all_are_alike_is_not_chosen(self):
        house = house_after((1, 9, 0), [(5, 0, 5, "in"), (5, 0, 2, "in")])
        known = [(0, 1, 0, 0, 1), (0, 1, 1, 0, 1)]
        self.assertEqual(self.checked(house, 0, known), ((3,), [((), *known)]))
        house = house_after((1, 0, 2), [(1, 0, 1, "in"), (5, 0, 5, "out")])
        known = [(1, 0, 0, 1, 0), (1, 0, 1, 1, 0), (1, 1, 0, 1, 0), (1, 1, 1, 1, 0)]
        self.assertEqual(self.checked(house, 0, known)[0], (2, 3))

    def test_against_all_worlds(self):
        for numbers, house in sound_houses(32, 200):
            worlds = worlds_of(house, numbers)
            for badge in range(numbers[0]):
                self.checked(house, badge, sorted({world[badge] for world in worlds}))

    def test_wide_houses(self):
        chance = random.Random(33)
        found = 0
        for turn in range(80):
            numbers = (6, chance.randint(0, 4), chance.randint(0, 2))
            house = lived_house(chance, numbers, chance.randint(40, 60))
            try:
                known = stories(house, 2)
            except TooMany:
                self.refused(house, 2)
                continue
            if len(varying(known)) > 8:
                self.refused(house, 2)
            else:
                self.checked(house, 2, known)
                found += 1
        self.assertGreater(found, 20)

    def test_eight_moments_are_told(self):
        house = house_after((1, 0, 1), [(10, 0, 10, "out")])
        known = [(0,) * at + (1,) * (9 - at) + (0,) for at in range(8, -1, -1)]
        moments, pairs = self.checked(house, 0, known)
        self.assertEqual(moments, (1, 2, 3, 4, 5, 6, 7, 8))
        self.assertEqual(len(pairs), 255)
        house = house_after((1, 0, 1), [(8,)])
        self.assertEqual(len(varying(stories(house, 0))), 8)
        self.checked(house, 0, stories(house, 0))

    def test_nine_moments_are_too_many(self):
        house = house_after((1, 0, 1), [(11, 0, 11, "out")])
        self.assertEqual(len(stories(house, 0)), 10)
        self.refused(house, 0)
        self.refused(house_after((1, 0, 1), [(9,)]), 0)

    def test_late_moments_of_many(self):
        house = house_after((2, 3, 0), [(60,)])
        moments, pairs = self.checked(house, 1, stories(house, 1))
        self.assertEqual(moments, (57, 58, 59, 60))
        self.assertEqual(len(pairs), 15)

    def test_too_many_stories(self):
        self.refused(house_after((1, 7, 0), [(8,)]), 0)
        self.refused(house_after((1, 0, 2), [(21, 0, 21, "in"), (27, 0, 27, "out")]), 0)
        self.refused(house_after((6, 9, 6), [(60,)]), 5)

    def test_too_many_stories_at_eight_moments(self):
        # 256 stories, though no more than eight moments vary.
        house = house_after((1, 7, 0), [(20,)])
        self.refused(house, 0)
        house = house_after((1, 6, 0), [(20,)])
        self.assertEqual(self.checked(house, 0, stories(house, 0))[0], (14, 15, 16, 17, 18, 19, 20))


if __name__ == "__main__":
    unittest.main()
