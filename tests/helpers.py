"""What several test files use: houses from steps, and worlds counted by the words of the document."""

import itertools
import random

from insidecount.errors import HouseError
from insidecount.houses import House


def take(house, steps):
    """Hand a house steps: (time,) for a tick, (time, badge, moment, word) for a row."""
    for step in steps:
        if len(step) == 1:
            house.tick(*step)
        else:
            house.come(*step)


def house_after(numbers, steps):
    house = House(*numbers)
    take(house, steps)
    return house


def standing(house):
    return house.time(), house.rows(), house.broken()


def rows_of(house, badge):
    return {moment: word for owner, moment, word in house.rows() if owner == badge}


def passings(story):
    """The moments in which a story turns, each with its word."""
    ahead = (0, *story)
    return {at + 1: ("out", "in")[now] for at, now in enumerate(story) if ahead[at] != now}


def price_of(story, rows, late):
    """The price of a story by the words of [4]; None if it can't be."""
    passed = passings(story)
    if any(passed.get(moment) != word for moment, word in rows.items()):
        return None
    return sum(1 for moment in passed if moment not in rows and moment + late < len(story))


def priced_stories(house, badge, late):
    """All stories of a badge that can be, rising, each with its price, by trying all tuples of 0 and 1."""
    rows = rows_of(house, badge)
    tried = itertools.product((0, 1), repeat=house.time())
    priced = [(story, price_of(story, rows, late)) for story in tried]
    return [(story, price) for story, price in priced if price is not None]


def worlds_of(house, numbers):
    """All worlds of a house by the words of [5]."""
    badges, late, lost = numbers
    worlds = []
    for chosen in itertools.product(*(priced_stories(house, badge, late) for badge in range(badges))):
        if sum(price for story, price in chosen) <= lost:
            worlds.append(tuple(story for story, price in chosen))
    return worlds


def least_prices(house, badge, late, moment):
    """The least price of a badge's stories with 0 and with 1 behind a moment, or None; for any number of moments.

    Walks forward over all that the badge may have paid, so it does not need to try all stories.
    """
    rows = rows_of(house, badge)
    # What a story is like so far: where it was behind the asked moment, where it is, what it paid.
    reached = {(None, 0, 0)}
    for at in range(1, house.time() + 1):
        longer = set()
        for asked, now, paid in reached:
            for then in (0, 1):
                turned = None if then == now else ("out", "in")[then]
                if turned != rows.get(at) and at in rows:
                    continue
                lost = turned is not None and at not in rows and at + late < house.time()
                longer.add((then if at == moment else asked, then, paid + lost))
        reached = longer
    return [min((paid for asked, now, paid in reached if asked == value), default=None) for value in (0, 1)]


def some_step(chance, house, badges, last_time):
    """A step that a house of so many badges may take or refuse, with no time above the last one."""
    time = min(house.time() + chance.choice((0, 0, 1, 2)), last_time)
    if chance.randint(0, 3) == 0:
        return (time,)
    return (time, chance.randrange(badges), max(1, time - chance.randint(0, 3)), chance.choice(("in", "out")))


def some_house(chance, numbers, tries, last_time):
    """A house behind some steps, those left out that it refused."""
    house = House(*numbers)
    # A bounded number of tries: a house that refuses too much must fail its test, not hang it.
    for attempt in range(tries):
        try:
            take(house, [some_step(chance, house, numbers[0], last_time)])
        except HouseError:
            continue
    return house


def lived_house(chance, numbers, last_time):
    """A sound house of any size: drawn is what its badges do, then which rows are lost, and how late others come."""
    badges, late, lost = numbers
    passed = []
    for badge in range(badges):
        word = "in"
        for moment in range(1, last_time + 1):
            if chance.randint(0, 2) == 0:
                passed.append((badge, moment, word))
                word = "out" if word == "in" else "in"
    chance.shuffle(passed)
    coming = [(row[1] + chance.randint(0, late), *row) for row in passed[lost:]]
    return house_after(numbers, [row for row in sorted(coming) if row[0] <= last_time] + [(last_time,)])


def has_world(house, numbers):
    """Whether a house has a world by the words of [5]: whether the cheapest stories together make one."""
    badges, late, lost = numbers
    prices = [[price for story, price in priced_stories(house, badge, late)] for badge in range(badges)]
    return all(prices) and sum(min(of_badge) for of_badge in prices) <= lost


def sound_houses(seed, many):
    """So many pairs (numbers, house) of small sound houses."""
    chance = random.Random(seed)
    found = []
    # Bounded too: houses that are never sound must fail their test, not hang it.
    for attempt in range(20 * many):
        numbers = (chance.randint(1, 3), chance.randint(0, 3), chance.randint(0, 3))
        last_time = 8 - numbers[0]
        if chance.randint(0, 1) == 0:
            house = lived_house(chance, numbers, last_time)
        else:
            house = some_house(chance, numbers, chance.randint(1, 9), last_time)
        if has_world(house, numbers):
            found.append((numbers, house))
        if len(found) == many:
            return found
    raise AssertionError(f"only {len(found)} of {many} houses were sound")
