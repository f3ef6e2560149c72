"""Bars and their texts."""

from paperroll.reading import BLANK, LINE_END, Fault, Reader

MOST_WIDTH = 128
MOST_SPLIT = 128
MOST_TAIL = 15
MOST_FORCE = 127
MOST_SWELL = 1023
# Of each word its kind, and the greatest that each of its numbers may be.
KINDS = {
    "key": (1, (127,)),
    "loud": (2, ()),
    "soft": (3, ()),
    "lock": (4, (2, 1)),
    "cancel": (5, (1,)),
    "up": (6, (1,)),
    "down": (7, (1,)),
    "accent": (8, (1,)),
    "end": (9, ()),
}
KEY = 1
LOCK = 4
CANCEL = 5
UP = 6
DOWN = 7
ACCENT = 8
# These kinds have no numbers: each is one meaning.
LOUD = (2, 0, 0)
SOFT = (3, 0, 0)
END = (9, 0, 0)


class Bar:
    """A bar; tracks says of each meaning (its kind, its two numbers) which track has it.

    key_tracks are the keys that a track means, rising, each with its track.
    """

    def __init__(self, width, split, tail):
        self.width = width
        self.split = split
        self.tail = tail
        self.force = ()
        self.swell = ()
        self.tracks = {}
        self.key_tracks = []

    def is_heard(self, meaning, sounding):
        return self.tracks.get(meaning) in sounding

    def side_of(self, key):
        return 0 if key < self.split else 1


def read_bar(text):
    reader = Reader(text)
    reader.expect_word("bar")
    width = read_next_number(reader, 1, MOST_WIDTH)
    split = read_next_number(reader, 0, MOST_SPLIT)
    reader.expect(LINE_END)
    reader.expect_word("tail")
    tail = read_next_number(reader, 0, MOST_TAIL)
    reader.expect(LINE_END)
    bar = Bar(width, split, tail)
    bar.force = read_three(reader, "force", MOST_FORCE)
    bar.swell = read_three(reader, "swell", MOST_SWELL)
    bar.tracks = read_tracks(reader, width)
    bar.key_tracks = keys_in_order(bar.tracks)
    return bar


def read_next_number(reader, least, most):
    reader.expect(BLANK)
    return reader.read_number(least, most)


def read_three(reader, word, most):
    reader.expect_word(word)
    numbers = [read_next_number(reader, 0, most) for k in range(3)]
    reader.expect(LINE_END)
    return tuple(numbers)


def read_tracks(reader, width):
    tracks = {}
    least = 0
    while not reader.at_end():
        track = reader.read_number(least, width - 1)
        reader.expect(BLANK)
        meaning = read_new_meaning(reader, tracks)
        tracks[meaning] = track
        reader.expect(LINE_END)
        least = track + 1
    return tracks


def read_new_meaning(reader, tracks):
    start = reader.place
    word = reader.read_letters()
    if word not in KINDS:
        raise Fault(start)
    numbers = [0, 0]
    for k, most in enumerate(KINDS[word][1]):
        numbers[k] = read_next_number(reader, 0, most)
    meaning = (KINDS[word][0], numbers[0], numbers[1])
    if meaning in tracks:
        raise Fault(start)
    return meaning


def keys_in_order(tracks):
    return sorted([(meaning[1], tracks[meaning]) for meaning in tracks if meaning[0] == KEY])
