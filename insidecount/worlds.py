"""Worlds that a house may have: whether there is one, and who is inside in them."""

from insidecount.errors import BadAsk, NotSound, TooMany
from insidecount.gaps import can_stand, wants_among

MOST_STORIES = 200
# The price of what can't be: more than any bound for lost rows.
NEVER = 1000


def wants(house):
    """All wants of the rows that have come: tuples (badge, from, to, word), rising."""
    return wants_among(house.rows(), house.late, house.time())


def is_sound(house):
    """Whether the house has a world."""
    return can_stand(wants(house), house.lost)


def inside(house, badge, moment):
    """1 if the badge is inside behind the moment in each world, 0 if in none, else None."""
    outside_story, inside_story = stories_through(house, badge, moment)
    if outside_story is None:
        return 1
    if inside_story is None:
        return 0
    return None


def two(house, badge, moment):
    """Two stories from worlds, the first with 0 at the moment, the second with 1; None if inside tells it."""
    both = stories_through(house, badge, moment)
    if None in both:
        return None
    return both


def count(house, moment):
    """How many badges are inside behind the moment, at least and at most, in any world."""
    check_moment(house, moment)
    check_sound(house)
    return (house.badges - most_with(house, moment, 0), most_with(house, moment, 1))


def stories(house, badge):
    """All stories of the badge that stand in a world, rising."""
    check_badge(house, badge)
    check_sound(house)
    # One more than may be told shows that there are too many, without building them all.
    found = first_stories(steps_of(house, badge), price_left(house, badge), MOST_STORIES + 1)
    if len(found) > MOST_STORIES:
        raise TooMany(f"badge {badge} has more than {MOST_STORIES} stories")
    return found


def check_badge(house, badge):
    """Refuse a badge that there isn't."""
    if not 0 <= badge < house.badges:
        raise BadAsk(f"there is no badge {badge}")


def check_moment(house, moment):
    """Refuse a moment that there isn't up to the time."""
    if not 1 <= moment <= house.time():
        raise BadAsk(f"there is no moment {moment} up to the time {house.time()}")


def check_sound(house):
    """Refuse a house that isn't sound."""
    if not is_sound(house):
        raise NotSound("the house is not sound")


def stories_through(house, badge, moment):
    """A story from a world with 0 at the moment, and one with 1; None for either that is in no world."""
    check_badge(house, badge)
    check_moment(house, moment)
    check_sound(house)
    steps = steps_of(house, badge)
    most = price_left(house, badge)
    found = [first_stories(steps_through(steps, moment, state), most, 1) for state in (0, 1)]
    return tuple(first[0] if first else None for first in found)


def most_with(house, moment, state):
    """How many badges have this state behind the moment, at most, in any world."""
    left = house.lost - len(wants(house))
    many = 0
    # Each badge counts one, so those that cost least above their cheapest stories are taken first.
    for price in sorted([price_above(house, badge, moment, state) for badge in range(house.badges)]):
        if price <= left:
            left -= price
            many += 1
    return many


def price_above(house, badge, moment, state):
    """What the state behind the moment costs the badge above its cheapest story."""
    steps = steps_of(house, badge)
    return least_price(steps_through(steps, moment, state)) - least_price(steps)


def price_left(house, badge):
    """What a story of this badge may cost in a sound house if the others have their cheapest stories."""
    # In a sound house each want is of one lost row, and the cheapest story loses no other.
    return house.lost - len([want for want in wants(house) if want[0] != badge])


def steps_of(house, badge):
    """For each moment up to the time the steps that the badge may take in it."""
    words = {moment: word for owner, moment, word in house.rows() if owner == badge}
    time = house.time()
    steps = []
    for moment in range(1, time + 1):
        price = 1 if moment + house.late < time else 0
        steps.append(steps_in(words.get(moment), price))
    return steps


def steps_in(word, price):
    """The steps (before, behind, price) that can be in a moment, rising, by its row's word (None for no row)."""
    if word == "in":
        return [(0, 1, 0)]
    if word == "out":
        return [(1, 0, 0)]
    return [(0, 0, 0), (0, 1, price), (1, 0, price), (1, 1, 0)]


def steps_through(steps, moment, state):
    """The same steps, but in the moment only those that lead to the state."""
    leading = [step for step in steps[moment - 1] if step[1] == state]
    return steps[:moment - 1] + [leading] + steps[moment:]


def least_price(steps):
    """The price of the cheapest story by these steps; NEVER or more if there is none."""
    return rests_of(steps)[0][0]


def rests_of(steps):
    """For each moment, from 0, the least prices of what follows behind it, from outside and from inside."""
    rests = [(0, 0)]
    for options in reversed(steps):
        rest = rests[-1]
        rests.append((rest_from(0, options, rest), rest_from(1, options, rest)))
    return rests[::-1]


def rest_from(state, options, rest):
    """The least price from a state on, through these steps and the rest behind them."""
    return min([price + rest[behind] for before, behind, price in options if before == state], default=NEVER)


def first_stories(steps, most, many):
    """The first stories by these steps, rising, of at most this price, and at most this many of them."""
    rests = rests_of(steps)
    begun = [((), 0, 0)]
    for moment, options in enumerate(steps, start=1):
        # Each one begun can be ended, so no story of the first ones is cut off.
        begun = longer_ones(begun, options, rests[moment], most)[:many]
    return [story for story, state, spent in begun]


def longer_ones(begun, options, rest, most):
    """The begun stories (story, state, spent), one moment longer, that can be ended for at most this price."""
    return [
        (story + (behind,), behind, spent + price)
        for story, state, spent in begun
        for before, behind, price in options
        if before == state and spent + price + rest[behind] <= most
    ]
