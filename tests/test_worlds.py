"""Promises [8], [9] and [10], and the interface, section insidecount/worlds.py."""

import inspect
import itertools
import random
import unittest

from insidecount import worlds
from insidecount.errors import BadAsk, NotSound, TooMany
from insidecount.houses import House
from insidecount.looks import looks
from insidecount.worlds import count, inside, is_sound, stories, two, wants
from tests.helpers import house_after, least_prices, lived_house, price_of, rows_of, sound_houses, take, worlds_of


def all_inside(house, badge):
    return [inside(house, badge, moment) for moment in range(1, house.time() + 1)]


def all_counts(house):
    return [count(house, moment) for moment in range(1, house.time() + 1)]


def inside_by_prices(prices, badge, lost):
    """What inside tells, by the least prices of all badges with 0 and with 1 at the moment."""
    others = sum(least(prices[other]) for other in range(len(prices)) if other != badge)
    can_be = [value for value in (0, 1) if prices[badge][value] is not None and prices[badge][value] + others <= lost]
    return can_be[0] if len(can_be) == 1 else None


def count_by_prices(prices, lost):
    """What count tells, by trying all that the badges may be at the moment."""
    found = []
    for values in itertools.product((0, 1), repeat=len(prices)):
        paid = [prices[badge][value] for badge, value in enumerate(values)]
        if None not in paid and sum(paid) <= lost:
            found.append(sum(values))
    return min(found), max(found)


def least(prices):
    return min(price for price in prices if price is not None)


def wide_houses(seed, many):
    chance = random.Random(seed)
    for turn in range(many):
        numbers = (6, chance.randint(0, 9), chance.randint(0, 6))
        yield numbers, lived_house(chance, numbers, chance.randint(40, 60))


class InterfaceTest(unittest.TestCase):
    def test_names_and_arguments(self):
        listed = {
            "wants": ["house"],
            "is_sound": ["house"],
            "inside": ["house", "badge", "moment"],
            "two": ["house", "badge", "moment"],
            "count": ["house", "moment"],
            "stories": ["house", "badge"],
        }
        for name, arguments in listed.items():
            with self.subTest(name=name):
                self.assertEqual(list(inspect.signature(getattr(worlds, name)).parameters), arguments)


class InsideTest(unittest.TestCase):
    def told(self, numbers, steps, badge, found):
        house = house_after(numbers, steps)
        told = all_inside(house, badge)
        self.assertEqual(told, found, (numbers, steps, badge))
        self.assertLessEqual({type(one) for one in told}, {int, type(None)})

    def test_rows_may_come_still(self):
        self.told((1, 0, 0), [(1,)], 0, [None])
        self.told((1, 0, 0), [(3,)], 0, [0, 0, None])
        self.told((1, 2, 0), [(5,)], 0, [0, 0, None, None, None])
        self.told((1, 9, 0), [(10,)], 0, [None] * 10)
        self.told((1, 9, 0), [(11,)], 0, [0] + [None] * 10)

    def test_rows_that_came(self):
        self.told((1, 0, 0), [(1, 0, 1, "in")], 0, [1])
        self.told((1, 0, 0), [(1, 0, 1, "in"), (3,)], 0, [1, 1, None])
        self.told((1, 0, 0), [(1, 0, 1, "in"), (3, 0, 3, "out"), (5,)], 0, [1, 1, 0, 0, None])
        self.told((1, 3, 0), [(4, 0, 4, "in")], 0, [None, None, 0, 1])

    def test_lost_rows(self):
        self.told((1, 2, 1), [(5,)], 0, [None] * 5)
        self.told((1, 1, 1), [(3, 0, 3, "out")], 0, [None, 1, 0])
        self.told((1, 1, 0), [(3, 0, 3, "out")], 0, [0, 1, 0])
        self.told((1, 1, 1), [(3, 0, 3, "out"), (5,)], 0, [None, 1, 0, None, None])
        self.told((1, 0, 1), [(4, 0, 4, "in")], 0, [0, 0, 0, 1])
        self.told((1, 0, 2), [(4, 0, 4, "in")], 0, [None, None, 0, 1])

    def test_the_bound_is_shared(self):
        steps = [(2, 1, 2, "out"), (5,)]
        self.told((2, 0, 1), steps, 0, [0, 0, 0, 0, None])
        self.told((2, 0, 1), steps, 1, [1, 0, 0, 0, None])
        self.told((2, 0, 2), steps, 0, [None] * 5)
        self.told((2, 0, 2), steps, 1, [1, 0, None, None, None])

    def test_many_moments(self):
        self.told((6, 0, 0), [(60,)], 5, [0] * 59 + [None])
        self.told((6, 9, 0), [(60,)], 5, [0] * 50 + [None] * 10)
        self.told((6, 9, 1), [(60,)], 5, [None] * 60)
        steps = [(10, 3, 10, "in"), (30, 3, 30, "out"), (55,)]
        self.told((6, 4, 0), steps, 3, [0] * 9 + [1] * 20 + [0] * 21 + [None] * 5)
        self.told((6, 4, 1), steps, 3, [0] * 9 + [1] * 20 + [0] + [None] * 25)
        self.told((6, 4, 2), steps, 3, [None] * 8 + [0, 1] + [None] * 18 + [1, 0] + [None] * 25)

    def test_against_all_worlds(self):
        ends = {0: 0, 1: 0, None: 0}
        for numbers, house in sound_houses(21, 250):
            known = worlds_of(house, numbers)
            for badge in range(numbers[0]):
                for moment in range(1, house.time() + 1):
                    values = {world[badge][moment - 1] for world in known}
                    found = None if len(values) == 2 else min(values)
                    case = (numbers, house.rows(), house.time(), badge, moment)
                    self.assertEqual(inside(house, badge, moment), found, case)
                    ends[found] += 1
        self.assertGreater(min(ends.values()), 100, ends)

    def test_wide_houses(self):
        ends = {0: 0, 1: 0, None: 0}
        for numbers, house in wide_houses(22, 6):
            late, lost = numbers[1:]
            for moment in (1, 2, 7, 20, 33, house.time() - late - 1, house.time() - 1, house.time()):
                prices = [least_prices(house, badge, late, moment) for badge in range(6)]
                for badge in range(6):
                    found = inside_by_prices(prices, badge, lost)
                    case = (numbers, house.rows(), house.time(), badge, moment)
                    self.assertEqual(inside(house, badge, moment), found, case)
                    ends[found] += 1
        self.assertGreater(min(ends.values()), 10, ends)


class TwoTest(unittest.TestCase):
    def stands(self, house, numbers, badge, story):
        """Whether a story stands in a world, with the others' cheapest stories beside it."""
        late, lost = numbers[1:]
        price = price_of(story, rows_of(house, badge), late)
        others = sum(least(least_prices(house, other, late, 1)) for other in range(numbers[0]) if other != badge)
        return price is not None and price + others <= lost

    def checked(self, numbers, house, badge, moment):
        """What two tells, if it is as it must be."""
        case = (numbers, house.rows(), house.time(), badge, moment)
        told = two(house, badge, moment)
        if inside(house, badge, moment) is not None:
            self.assertIsNone(told, case)
            return None
        self.assertIs(type(told), tuple, case)
        self.assertEqual([type(story) for story in told], [tuple, tuple], case)
        self.assertEqual([story[moment - 1] for story in told], [0, 1], case)
        for story in told:
            self.assertEqual(len(story), house.time(), case)
            self.assertEqual({type(one) for one in story}, {int}, case)
            self.assertTrue(self.stands(house, numbers, badge, story), (case, story))
        self.assertEqual(two(house, badge, moment), told, case)
        return told

    def test_none_where_inside_tells(self):
        house = house_after((1, 0, 0), [(1, 0, 1, "in"), (3,)])
        self.assertIsNone(two(house, 0, 1))
        self.assertIsNone(two(house, 0, 2))
        house = house_after((1, 0, 0), [(3,)])
        self.assertIsNone(two(house, 0, 1))

    def test_only_two_stories(self):
        self.assertEqual(two(house_after((1, 0, 0), [(1,)]), 0, 1), ((0,), (1,)))
        self.assertEqual(two(house_after((1, 0, 0), [(3,)]), 0, 3), ((0, 0, 0), (0, 0, 1)))
        house = house_after((1, 0, 1), [(1, 0, 1, "in"), (4, 0, 4, "in")])
        self.assertEqual(two(house, 0, 2), ((1, 0, 0, 1), (1, 1, 0, 1)))

    def test_the_bound_holds_together(self):
        house = house_after((2, 0, 2), [(2, 1, 2, "out"), (5,)])
        for moment in range(1, 6):
            self.assertIsNotNone(self.checked((2, 0, 2), house, 0, moment))

    def test_small_houses(self):
        many = 0
        for numbers, house in sound_houses(23, 150):
            known = worlds_of(house, numbers)
            for badge in range(numbers[0]):
                standing_ones = {world[badge] for world in known}
                for moment in range(1, house.time() + 1):
                    told = self.checked(numbers, house, badge, moment)
                    if told is not None:
                        self.assertLessEqual(set(told), standing_ones)
                        many += 1
        self.assertGreater(many, 200)

    def test_wide_houses(self):
        many = 0
        for numbers, house in wide_houses(24, 4):
            for moment in (1, 5, 20, house.time() - numbers[1] - 1, house.time()):
                for badge in range(6):
                    if self.checked(numbers, house, badge, moment) is not None:
                        many += 1
        self.assertGreater(many, 20)


class CountTest(unittest.TestCase):
    def told(self, numbers, steps, found):
        self.assertEqual(all_counts(house_after(numbers, steps)), found, (numbers, steps))

    def test_kind(self):
        told = count(house_after((2, 0, 0), [(1,)]), 1)
        self.assertIs(type(told), tuple)
        self.assertEqual([type(one) for one in told], [int, int])

    def test_no_rows(self):
        self.told((6, 0, 0), [(3,)], [(0, 0), (0, 0), (0, 6)])
        self.told((6, 1, 0), [(3,)], [(0, 0), (0, 6), (0, 6)])
        self.told((1, 0, 0), [(1,)], [(0, 1)])

    def test_the_bound_is_shared(self):
        for lost in range(7):
            self.told((6, 0, lost), [(3,)], [(0, lost), (0, lost), (0, 6)])

    def test_all_inside(self):
        steps = [(1, badge, 1, "in") for badge in range(4)]
        self.told((4, 0, 0), steps + [(3,)], [(4, 4), (4, 4), (0, 4)])
        self.told((4, 0, 1), steps + [(3,)], [(4, 4), (3, 4), (0, 4)])
        self.told((4, 0, 3), steps + [(3,)], [(4, 4), (1, 4), (0, 4)])

    def test_wants_take_from_the_bound(self):
        steps = [(2, 0, 2, "out"), (4,)]
        self.told((3, 0, 1), steps, [(1, 1), (0, 0), (0, 0), (0, 3)])
        self.told((3, 0, 2), steps, [(1, 2), (0, 1), (0, 1), (0, 3)])
        self.told((3, 0, 3), steps, [(1, 3), (0, 2), (0, 2), (0, 3)])

    def test_a_badge_that_would_lose_two_rows(self):
        # Badge 0 comes in at moment 4, so that it was inside ahead of this costs two lost rows, of badge 1 but one.
        steps = [(4, 0, 4, "in")]
        self.told((2, 0, 1), steps, [(0, 1), (0, 1), (0, 1), (1, 2)])
        self.told((2, 0, 2), steps, [(0, 1), (0, 1), (0, 1), (1, 2)])
        self.told((2, 0, 3), steps, [(0, 2), (0, 2), (0, 1), (1, 2)])

    def test_badges_that_would_lose_one_row_go_ahead_of_one_that_would_lose_two(self):
        for dear in range(3):
            steps = [(4, dear, 4, "in")]
            self.told((3, 0, 2), steps, [(0, 2), (0, 2), (0, 2), (1, 3)])
            self.told((3, 0, 3), steps, [(0, 2), (0, 2), (0, 2), (1, 3)])
            self.told((3, 0, 4), steps, [(0, 3), (0, 3), (0, 2), (1, 3)])
            steps = [(1, badge, 1, "in") for badge in range(3)] + [(5, dear, 5, "out")]
            self.told((3, 0, 2), steps, [(3, 3), (1, 3), (1, 3), (1, 3), (0, 2)])
            self.told((3, 0, 3), steps, [(3, 3), (1, 3), (1, 3), (1, 3), (0, 2)])
            self.told((3, 0, 4), steps, [(3, 3), (0, 3), (0, 3), (1, 3), (0, 2)])

    def test_against_all_worlds(self):
        open_ones = 0
        for numbers, house in sound_houses(25, 250):
            known = worlds_of(house, numbers)
            for moment in range(1, house.time() + 1):
                many = [sum(story[moment - 1] for story in world) for world in known]
                case = (numbers, house.rows(), house.time(), moment)
                self.assertEqual(count(house, moment), (min(many), max(many)), case)
                open_ones += min(many) != max(many)
        self.assertGreater(open_ones, 200)

    def test_wide_houses(self):
        for numbers, house in wide_houses(26, 6):
            late, lost = numbers[1:]
            for moment in (1, 2, 7, 20, 33, house.time() - late - 1, house.time() - 1, house.time()):
                prices = [least_prices(house, badge, late, moment) for badge in range(6)]
                case = (numbers, house.rows(), house.time(), moment)
                self.assertEqual(count(house, moment), count_by_prices(prices, lost), case)


class StoriesTest(unittest.TestCase):
    def refused(self, house, badge):
        with self.assertRaises(TooMany) as caught:
            stories(house, badge)
        self.assertIs(type(caught.exception), TooMany)

    def test_time_0(self):
        self.assertEqual(stories(House(1, 0, 0), 0), [()])
        self.assertEqual(stories(House(6, 9, 6), 5), [()])
        self.assertEqual(stories(house_after((1, 9, 6), [(0,)]), 0), [()])

    def test_few(self):
        self.assertEqual(stories(house_after((1, 0, 0), [(1, 0, 1, "in")]), 0), [(1,)])
        self.assertEqual(stories(house_after((1, 0, 0), [(2,)]), 0), [(0, 0), (0, 1)])
        house = house_after((1, 1, 0), [(1, 0, 1, "in"), (3,)])
        self.assertEqual(stories(house, 0), [(1, 0, 0), (1, 0, 1), (1, 1, 0), (1, 1, 1)])
        house = house_after((1, 0, 1), [(1, 0, 1, "in"), (4, 0, 4, "in")])
        self.assertEqual(stories(house, 0), [(1, 0, 0, 1), (1, 1, 0, 1)])

    def test_the_bound_is_shared(self):
        steps = [(2, 1, 2, "out"), (3,)]
        self.assertEqual(stories(house_after((2, 0, 1), steps), 0), [(0, 0, 0), (0, 0, 1)])
        six = [(0, 0, 0), (0, 0, 1), (0, 1, 0), (0, 1, 1), (1, 1, 0), (1, 1, 1)]
        self.assertEqual(stories(house_after((2, 0, 2), steps), 0), six)
        self.assertEqual(stories(house_after((2, 0, 1), steps), 1), [(1, 0, 0), (1, 0, 1)])

    def test_sixty_moments(self):
        house = house_after((6, 0, 1), [(60,)])
        found = [(0,) * before + (1,) * (59 - before) + (last,) for before in range(60) for last in (0, 1)]
        self.assertEqual(stories(house, 3), sorted(found))
        self.assertEqual(len(found), 120)

    def test_kinds(self):
        told = stories(house_after((1, 1, 1), [(4,)]), 0)
        self.assertIs(type(told), list)
        for story in told:
            self.assertIs(type(story), tuple)
            self.assertEqual([type(one) for one in story], [int] * 4)

    def test_against_all_worlds(self):
        for numbers, house in sound_houses(27, 250):
            known = worlds_of(house, numbers)
            for badge in range(numbers[0]):
                found = sorted({world[badge] for world in known})
                self.assertEqual(stories(house, badge), found, (numbers, house.rows(), house.time(), badge))

    def test_200_are_told(self):
        for numbers, steps in (
            ((1, 2, 1), [(27,)]),
            ((1, 0, 2), [(20, 0, 20, "in"), (29, 0, 29, "out")]),
        ):
            house = house_after(numbers, steps)
            told = stories(house, 0)
            self.assertEqual(len(told), 200)
            self.assertEqual(told, sorted(set(told)))
            late, lost = numbers[1:]
            for story in told:
                self.assertLessEqual(price_of(story, rows_of(house, 0), late), lost)
                self.assertEqual(len(story), house.time())

    def test_201_are_too_many(self):
        self.refused(house_after((1, 0, 2), [(21, 0, 21, "in"), (27, 0, 27, "out")]), 0)

    def test_many_more_are_too_many(self):
        self.refused(house_after((1, 2, 1), [(28,)]), 0)
        self.refused(house_after((1, 7, 0), [(8,)]), 0)
        self.refused(house_after((6, 9, 6), [(60,)]), 5)

    def test_too_many_of_one_badge_alone(self):
        house = house_after((2, 9, 0), [(at, 0, at, ("out", "in")[at % 2]) for at in range(1, 11)])
        self.refused(house, 1)
        self.assertEqual(stories(house, 0), [(1, 0) * 5])

    def test_wide_houses(self):
        told_ones = 0
        for numbers, house in wide_houses(28, 60):
            late, lost = numbers[1:]
            for badge in (0, 5):
                try:
                    told = stories(house, badge)
                except TooMany:
                    continue
                told_ones += 1
                self.assertEqual(told, sorted(set(told)))
                for moment in range(1, house.time() + 1):
                    values = {story[moment - 1] for story in told}
                    found = None if len(values) == 2 else min(values)
                    self.assertEqual(inside(house, badge, moment), found)
        self.assertGreater(told_ones, 10)


class RefusedTest(unittest.TestCase):
    def refuses(self, error, ask, *arguments):
        with self.subTest(ask=ask.__name__, arguments=arguments[1:]):
            with self.assertRaises(error) as caught:
                ask(*arguments)
            self.assertIs(type(caught.exception), error)

    def sound(self):
        return house_after((3, 2, 0), [(2, 1, 2, "in"), (5,)])

    def not_sound(self):
        # Badge 1 passed twice; badge 0 would have too many stories.
        return house_after((3, 9, 6), [(1, 1, 1, "out"), (20,)])

    def test_badges_that_there_are_not(self):
        for house in (self.sound(), self.not_sound()):
            for badge in (-100, -3, -1, 3, 4, 100):
                self.refuses(BadAsk, inside, house, badge, 1)
                self.refuses(BadAsk, two, house, badge, 1)
                self.refuses(BadAsk, stories, house, badge)
                self.refuses(BadAsk, looks, house, badge)

    def test_the_number_of_badges_is_no_badge(self):
        for badges in range(1, 7):
            house = house_after((badges, 0, 0), [(1,)])
            for ask in (stories, looks):
                self.refuses(BadAsk, ask, house, badges)
                ask(house, badges - 1)
            for ask in (inside, two):
                self.refuses(BadAsk, ask, house, badges, 1)
                ask(house, badges - 1, 1)

    def test_moments_that_there_are_not(self):
        for house in (self.sound(), self.not_sound()):
            for moment in (-100, -1, 0, house.time() + 1, house.time() + 2, 61, 1000):
                for badge in (0, 2):
                    self.refuses(BadAsk, inside, house, badge, moment)
                    self.refuses(BadAsk, two, house, badge, moment)
                self.refuses(BadAsk, count, house, moment)

    def test_no_moment_at_time_0(self):
        house = House(1, 9, 0)
        for moment in (0, 1):
            self.refuses(BadAsk, inside, house, 0, moment)
            self.refuses(BadAsk, two, house, 0, moment)
            self.refuses(BadAsk, count, house, moment)

    def test_the_first_and_the_last_moment_are_told(self):
        house = self.sound()
        self.assertEqual((inside(house, 1, 1), inside(house, 1, 5)), (0, None))
        self.assertEqual((two(house, 1, 1), len(two(house, 1, 5))), (None, 2))
        self.assertEqual((count(house, 1), count(house, 5)), ((0, 0), (0, 3)))

    def test_not_sound(self):
        lost_too_many = house_after((3, 0, 1), [(2, 0, 2, "out"), (2, 1, 2, "out"), (20,)])
        for house in (self.not_sound(), lost_too_many):
            for badge in range(3):
                for moment in (1, 20):
                    self.refuses(NotSound, inside, house, badge, moment)
                    self.refuses(NotSound, two, house, badge, moment)
                self.refuses(NotSound, stories, house, badge)
                self.refuses(NotSound, looks, house, badge)
            self.refuses(NotSound, count, house, 1)
            self.refuses(NotSound, count, house, 20)
            self.assertIs(is_sound(house), False)
        self.assertEqual(wants(self.not_sound()), [(1, 0, 1, "twice")])
        self.assertEqual(wants(lost_too_many), [(0, 0, 2, "lost"), (1, 0, 2, "lost")])

    def test_too_many_by_the_same_house_while_it_is_sound(self):
        house = house_after((3, 9, 6), [(20,)])
        self.refuses(TooMany, stories, house, 0)
        self.refuses(TooMany, looks, house, 0)
        take(house, [(20, 1, 20, "out"), (20, 1, 19, "out")])
        self.refuses(NotSound, stories, house, 0)
        self.refuses(NotSound, looks, house, 0)
        self.refuses(BadAsk, stories, house, 3)
        self.refuses(BadAsk, looks, house, 3)

    def test_sound_at_the_bound_is_told(self):
        house = house_after((2, 0, 2), [(2, 0, 2, "out"), (2, 1, 2, "out")])
        self.assertEqual(all_inside(house, 0), [1, 0])
        self.assertEqual(all_counts(house), [(2, 2), (0, 0)])
        self.assertEqual(stories(house, 1), [(1, 0)])
        self.assertEqual(looks(house, 1), ((), []))


if __name__ == "__main__":
    unittest.main()
