"""What is told of a row: events, each its kind, its key and its force here."""

from paperroll.bars import END, LOUD, SOFT

LET_GO = 1
STRUCK = 2
LOUD_BEGINS = 3
LOUD_ENDS = 4
SOFT_BEGINS = 5
SOFT_ENDS = 6
END_BEGINS = 7


class Change:
    """The tracks that sounded at the row before and those that sound now."""

    def __init__(self, before, after):
        self.before = before
        self.after = after

    def begins(self, track):
        return track in self.after and track not in self.before

    def ends(self, track):
        return track in self.before and track not in self.after


def row_events(bar, change, forces):
    """The events of a row in their order; forces are those of the two sides."""
    events = [(LET_GO, key, 0) for key, track in bar.key_tracks if change.ends(track)]
    events.extend(begin_or_end(change, bar.tracks.get(LOUD), LOUD_BEGINS, LOUD_ENDS))
    events.extend(begin_or_end(change, bar.tracks.get(SOFT), SOFT_BEGINS, SOFT_ENDS))
    for key, track in bar.key_tracks:
        if change.begins(track):
            events.append((STRUCK, key, forces[bar.side_of(key)]))
    if change.begins(bar.tracks.get(END)):
        events.append((END_BEGINS, 0, 0))
    return events


def begin_or_end(change, track, kind_of_beginning, kind_of_end):
    if change.begins(track):
        return [(kind_of_beginning, 0, 0)]
    if change.ends(track):
        return [(kind_of_end, 0, 0)]
    return []
