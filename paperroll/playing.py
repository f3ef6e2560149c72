"""A player: rows are fed to it, begun one after another, and told as events."""

from paperroll.events import END_BEGINS, Change, row_events
from paperroll.pace import Pace
from paperroll.sides import Side
from paperroll.spools import is_turn_time
from paperroll.tones import Tones

MOST_WAITING = 256
MOST_FED = 512
MOST_TOLD = 512
DONE_WELL = 0
OUT_OF_RANGE = -1
NO_MORE_ROWS = -4
OTHER_WIDTH = -5
TOO_MANY_ROWS = -10
# Why a step ends.
ROWS_BEGUN = 0
ROW_NOT_FED = 1
PLAYER_DONE = 2
EVENTS_UNTOLD = 3
# Of a step that doesn't end yet; none of its answers.
GOES_ON = -1


class Player:
    """A player; rows are all that were fed, begun how many were begun, those behind the last one too.

    untold are the events of the row begun last that are still to be told, time is that row's.
    """

    def __init__(self, bar, spool):
        self.bar = bar
        self.pace = Pace(spool)
        self.tones = Tones(bar.width, bar.tail)
        self.sides = [Side(bar, 0), Side(bar, 1)]
        self.rows = []
        self.begun = 0
        self.time = 0
        self.untold = []
        self.no_more = False
        self.done = False

    def feed(self, strip):
        if strip.width != self.bar.width:
            return OTHER_WIDTH
        if self.no_more or self.done:
            return NO_MORE_ROWS
        fed = len(self.rows) + len(strip.rows)
        if fed - self.begun > MOST_WAITING or fed > MOST_FED:
            return TOO_MANY_ROWS
        self.rows.extend(strip.rows)
        return DONE_WELL

    def end_feeding(self):
        if self.no_more or self.done:
            return NO_MORE_ROWS
        self.no_more = True
        return DONE_WELL

    def take_step(self, most_rows, most_told):
        """Why the step ends, and the events told."""
        end_row = self.begun + most_rows
        told = []
        while True:
            self.tell(told, min(most_told, MOST_TOLD))
            standing = self.standing(end_row)
            if standing != GOES_ON:
                return (standing, told)
            self.begin_row()

    def tell(self, told, most):
        while len(self.untold) > 0 and len(told) < most:
            event = self.untold.pop(0)
            told.append(event)
            if event[0] == END_BEGINS:
                self.done = True

    def standing(self, end_row):
        if len(self.untold) > 0:
            return EVENTS_UNTOLD
        if self.done:
            return PLAYER_DONE
        if self.begun == end_row:
            return ROWS_BEGUN
        if self.begun == len(self.rows) and not self.no_more:
            return ROW_NOT_FED
        return GOES_ON

    def begin_row(self):
        row = self.begun
        before = self.tones.sounding()
        self.tones.take_row(self.holes_of(row))
        after = self.tones.sounding()
        for side in self.sides:
            side.take_row(after)
        forces = [side.force_at(after) for side in self.sides]
        self.time = self.pace.time_of(row)
        changes = row_events(self.bar, Change(before, after), forces)
        self.untold = [event + (row, self.time) for event in changes]
        self.begun = row + 1
        if self.no_more and self.begun == len(self.rows) + self.bar.tail + 1:
            self.done = True

    def holes_of(self, row):
        return self.rows[row] if row < len(self.rows) else ()

    def set_lever(self, turn_time):
        if not is_turn_time(turn_time):
            return OUT_OF_RANGE
        self.pace.change(turn_time, max(self.begun - 1, 0), self.time)
        return DONE_WELL

    def now(self):
        waiting = max(len(self.rows) - self.begun, 0)
        numbers = [self.begun, waiting, len(self.untold), self.stage(), self.time]
        numbers.extend([side.locks for side in self.sides])
        numbers.extend([side.swell for side in self.sides])
        numbers.extend(list(self.tones.sounding()))
        return numbers

    def stage(self):
        if self.done:
            return 2
        return 1 if self.no_more else 0
