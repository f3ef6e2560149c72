"""The two sides of a bar: their locks, swells and forces."""

from paperroll.bars import ACCENT, CANCEL, DOWN, LOCK, SOFT, UP

LOCK_WEIGHTS = (1, 2, 4)
MOST_FORCE = 127


class Side:
    """The side 0 or 1 of a bar; locks is its lock value, swell its swell, behind the row begun last."""

    def __init__(self, bar, number):
        self.bar = bar
        self.number = number
        self.locks = 0
        self.swell = 0

    def hears(self, kind, sounding):
        return self.bar.is_heard((kind, self.number, 0), sounding)

    def take_row(self, sounding):
        self.change_locks(sounding)
        self.change_swell(sounding)

    def change_locks(self, sounding):
        if self.hears(CANCEL, sounding):
            self.locks = 0
        for lock, weight in enumerate(LOCK_WEIGHTS):
            if self.bar.is_heard((LOCK, lock, self.number), sounding):
                self.locks = self.locks | weight

    def change_swell(self, sounding):
        up = self.hears(UP, sounding)
        down = self.hears(DOWN, sounding)
        if up and not down:
            self.swell = min(self.swell + self.bar.swell[1], self.bar.swell[0])
        if down and not up:
            self.swell = max(self.swell - self.bar.swell[2], 0)

    def force_at(self, sounding):
        force = self.bar.force[0] + self.bar.force[1] * self.locks + self.swell // 8
        if self.hears(ACCENT, sounding):
            force += self.bar.force[2]
        force = min(force, MOST_FORCE)
        if self.bar.is_heard(SOFT, sounding):
            force -= force // 4
        return force
