"""The times at which rows come, also when the lever changes how fast the spool goes round."""


class Pace:
    """The turn's time as it is now, and the angle and the time from which rows' times are reckoned."""

    def __init__(self, spool):
        self.spool = spool
        self.turn_time = spool.turn_time
        self.from_angle = spool.angle(0)
        self.from_time = 0

    def change(self, turn_time, row, time):
        self.turn_time = turn_time
        self.from_angle = self.spool.angle(row)
        self.from_time = time

    def time_of(self, row):
        angle = self.spool.angle(row)
        above = angle[0] * self.from_angle[1] - self.from_angle[0] * angle[1]
        below = angle[1] * self.from_angle[1]
        return self.from_time + round_up(self.turn_time * above, below)


def round_up(above, below):
    return (above + below - 1) // below
