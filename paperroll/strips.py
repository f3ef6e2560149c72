"""Strips and their texts."""

from paperroll.reading import BLANK, LINE_END, Fault, Reader

MOST_WIDTH = 128
MOST_ROWS = 256


class Strip:
    """A strip; each of its rows is the tuple of the tracks that have a hole there, rising."""

    def __init__(self, width, rows):
        self.width = width
        self.rows = rows


def read_strip(text):
    reader = Reader(text)
    reader.expect_word("strip")
    reader.expect(BLANK)
    width = reader.read_number(1, MOST_WIDTH)
    reader.expect(LINE_END)
    rows = []
    while not reader.at_end():
        rows.extend(read_run(reader, width, rows))
    return Strip(width, rows)


def read_run(reader, width, rows_before):
    how_many = reader.read_number(1, MOST_ROWS - len(rows_before))
    holes = read_holes(reader, width)
    if len(rows_before) > 0 and holes == rows_before[-1]:
        raise Fault(reader.place)
    reader.expect(LINE_END)
    return [holes] * how_many


def read_holes(reader, width):
    holes = []
    least = 0
    while reader.byte_here() == BLANK:
        reader.expect(BLANK)
        track = reader.read_number(least, width - 1)
        holes.append(track)
        least = track + 1
    return tuple(holes)
