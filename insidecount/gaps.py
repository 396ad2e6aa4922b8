"""Passings that rows want between them, and whether a house can stand with these wants."""


def wants_among(rows, late, time):
    """All wants of rows, which rise by badge and moment: tuples (badge, from, to, word), rising."""
    wants = []
    ahead = {}
    for badge, moment, word in rows:
        # All badges are outside at first, as if each had gone out at moment 0.
        last_moment, last_word = ahead.get(badge, (0, "out"))
        fault = fault_between(last_moment, moment, late, time)
        if word == last_word and fault is not None:
            wants.append((badge, last_moment, moment, fault))
        ahead[badge] = (moment, word)
    return wants


def fault_between(start, end, late, time):
    """What is wrong if a passing is wanted between two moments; None if its row may come still."""
    last_between = end - 1
    if last_between == start:
        return "twice"
    # A row may come longest for the last moment between, so the others need no look.
    if last_between + late < time:
        return "lost"
    return None


def can_stand(wants, lost):
    """Whether there is a world in spite of these wants."""
    words = [word for badge, start, end, word in wants]
    return "twice" not in words and len(words) <= lost
