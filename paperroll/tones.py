"""Which tracks sound at a row."""


class Tones:
    """Of each track for how many rows, with the row that came last, it goes on sounding."""

    def __init__(self, width, tail):
        self.tail = tail
        self.rows_left = [0] * width

    def take_row(self, holes):
        self.rows_left = [max(left - 1, 0) for left in self.rows_left]
        for track in holes:
            self.rows_left[track] = self.tail + 1

    def sounding(self):
        """A dict of the tracks that sound, rising."""
        tracks = {}
        for track, left in enumerate(self.rows_left):
            if left > 0:
                tracks[track] = True
        return tracks
