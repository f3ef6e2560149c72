"""What the tests share: texts, calls written as numbers, answers taken apart."""

from paperroll.player import answers

BAR = (
    "bar 4 60\n"
    "tail 1\n"
    "force 40 10 20\n"
    "swell 0 0 0\n"
    "0 key 60\n"
    "1 key 61\n"
    "2 soft\n"
    "3 end\n"
)
STRIP = "strip 4\n1 0\n1 0 1\n1\n1 2\n2\n"
HEAD = "bar 128 64\ntail 0\nforce 0 0 0\nswell 0 0 0\n"
SPOOL = (1000000, 0, 1000, 10000000)

LAST = [3]
STEP = [4, 1, 1]
LEVER = [5, 20000000]
NOW = [6]


def numbers_of(text):
    if isinstance(text, str):
        text = text.encode("latin-1")
    return list(text)


def opening(text=BAR, spool=SPOOL):
    text = numbers_of(text)
    return [1, *spool, len(text), *text]


def feeding(text=STRIP):
    text = numbers_of(text)
    return [2, len(text), *text]


def take_apart(answered):
    parts = []
    place = 0
    while place < len(answered):
        behind = place + 1 + answered[place]
        parts.append(answered[place + 1:behind])
        place = behind
    if place != len(answered):
        raise AssertionError("the counts don't fit the list")
    return parts


def ask(*calls):
    return take_apart(answers([number for call in calls for number in call]))


def fault(place):
    return [-6, 1, place, 0]


def strip_of(width, rows):
    """A strip's text with that many rows, all in one run or none."""
    return f"strip {width}\n" + (f"{rows} 0\n" if rows else "")
