"""A player: a bar, a spool, and the rows that are fed to it."""

MOST_WAITING = 256
MOST_FED = 512
DONE_WELL = 0
NO_MORE_ROWS = -4
OTHER_WIDTH = -5
TOO_MANY_ROWS = -10


class Player:
    """A player; rows are all that were fed, begun is how many of them aren't waiting any more."""

    def __init__(self, bar, spool):
        self.bar = bar
        self.spool = spool
        self.rows = []
        self.begun = 0
        self.no_more = False
        self.done = False

    def feed(self, strip):
        if strip.width != self.bar.width:
            return OTHER_WIDTH
        if self.no_more or self.done:
            return NO_MORE_ROWS
        fed = len(self.rows) + len(strip.rows)
        if fed - self.begun > MOST_WAITING or fed > MOST_FED:
            return TOO_MANY_ROWS
        self.rows.extend(strip.rows)
        return DONE_WELL

    def end_feeding(self):
        if self.no_more or self.done:
            return NO_MORE_ROWS
        self.no_more = True
        return DONE_WELL
