"""Houses, the rows that have come to them, and where they broke."""

from insidecount.errors import BadHouse, BadRow, BadTime
from insidecount.gaps import can_stand, wants_among

MOST_BADGES = 6
MOST_LATE = 9
MOST_LOST = 6
LAST_TIME = 60
WORDS = ("in", "out")


class House:
    """A house with badges, a bound for late rows and a bound for lost ones."""

    def __init__(self, badges, late, lost):
        if not 1 <= badges <= MOST_BADGES:
            raise BadHouse(f"badges are 1 to {MOST_BADGES}, not {badges}")
        if not 0 <= late <= MOST_LATE:
            raise BadHouse(f"the bound for late rows is 0 to {MOST_LATE}, not {late}")
        if not 0 <= lost <= MOST_LOST:
            raise BadHouse(f"the bound for lost rows is 0 to {MOST_LOST}, not {lost}")
        self.badges = badges
        self.late = late
        self.lost = lost
        self.now = 0
        self.words = {}
        self.taken = 0
        self.first_break = None

    def come(self, time, badge, moment, word):
        """Take a row that comes at a time."""
        fault = self.row_fault(time, badge, moment, word)
        if fault is not None:
            raise BadRow(fault)
        self.words[(badge, moment)] = word
        self.move_on(time)

    def tick(self, time):
        """Take note that it is a time."""
        fault = self.time_fault(time)
        if fault is not None:
            raise BadTime(fault)
        self.move_on(time)

    def time(self):
        """The time that was told last."""
        return self.now

    def rows(self):
        """All rows that have come, as tuples (badge, moment, word), rising."""
        return [(badge, moment, self.words[(badge, moment)]) for badge, moment in sorted(self.words)]

    def broken(self):
        """The number of the first come or tick behind which the house was not sound, or None."""
        return self.first_break

    def time_fault(self, time):
        """Why it can't be this time; None if it can."""
        if not self.now <= time <= LAST_TIME:
            return f"the time is from {self.now} to {LAST_TIME}, not {time}"
        return None

    def row_fault(self, time, badge, moment, word):
        """Why this row can't come; None if it can."""
        if not 0 <= badge < self.badges:
            return f"there is no badge {badge}"
        if moment < 1:
            return f"there is no moment {moment}"
        if word not in WORDS:
            return f"a row tells in or out, not {word!r}"
        if not moment <= time <= moment + self.late:
            return f"a row of moment {moment} can't come at time {time}"
        if (badge, moment) in self.words:
            return f"a row of badge {badge} and moment {moment} has come"
        return self.time_fault(time)

    def move_on(self, time):
        """Set the time, and number what was taken; a house that broke is not sound again."""
        self.now = time
        if self.first_break is None and not can_stand(wants_among(self.rows(), self.late, time), self.lost):
            self.first_break = self.taken
        self.taken += 1
