"""What several test files use."""

from insidecount.houses import House


def take(house, steps):
    """Hand a house steps: (time,) for a tick, (time, badge, moment, word) for a row."""
    for step in steps:
        if len(step) == 1:
            house.tick(*step)
        else:
            house.come(*step)


def house_after(numbers, steps):
    house = House(*numbers)
    take(house, steps)
    return house


def standing(house):
    return house.time(), house.rows(), house.broken()
