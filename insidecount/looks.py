"""Looks back: the fewest moments that settle what a badge did."""

from insidecount.errors import TooMany
from insidecount.worlds import stories

MOST_MOMENTS = 8


def looks(house, badge):
    """The first choice of moments that settles the badge, and a pair of stories for each choice ahead of it."""
    known = stories(house, badge)
    moments = varying_moments(known)
    if len(moments) > MOST_MOMENTS:
        raise TooMany(f"the stories of badge {badge} are not alike at more than {MOST_MOMENTS} moments")
    settling = ()
    pairs = []
    # All moments together settle a badge, so the loop always ends at a choice that does.
    for choice in choices_of(moments):
        pair = alike_pair(known, choice)
        if pair is None:
            settling = choice
            break
        pairs.append((choice, pair[0], pair[1]))
    return (settling, pairs)


def varying_moments(known):
    """The moments at which not all stories are alike, rising."""
    return [at + 1 for at, first in enumerate(known[0]) if any(story[at] != first for story in known)]


def choices_of(moments):
    """All choices of rising moments: fewer ones first, then as tuples ascend."""
    choices = [()]
    for moment in moments:
        choices = choices + [choice + (moment,) for choice in choices]
    return sorted(choices, key=lambda choice: (len(choice), choice))


def alike_pair(known, choice):
    """Two of the rising stories, the lesser first, that are alike at all moments of the choice, or None."""
    seen = {}
    for story in known:
        look = tuple(story[moment - 1] for moment in choice)
        if look in seen:
            return (seen[look], story)
        seen[look] = story
    return None
