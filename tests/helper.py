"""What the tests share: texts, calls written as numbers, answers taken apart."""

from paperroll.player import answers

BAR = (
    "bar 4 60\n"
    "tail 1\n"
    "force 40 10 20\n"
    "swell 0 0 0\n"
    "0 key 60\n"
    "1 key 61\n"
    "2 soft\n"
    "3 end\n"
)
STRIP = "strip 4\n1 0\n1 0 1\n1\n1 2\n2\n"
HEAD = "bar 128 64\ntail 0\nforce 0 0 0\nswell 0 0 0\n"
SPOOL = (1000000, 0, 1000, 10000000)

LAST = [3]
GREATEST = 4294967295
# Row i comes at i microseconds.
PLAIN_SPOOL = (1, 0, 1, 1)

STEP = [4, 1, 1]
STEP_ON = [4, GREATEST, GREATEST]
LEVER = [5, 20000000]
NOW = [6]


def numbers_of(text):
    if isinstance(text, str):
        text = text.encode("latin-1")
    return list(text)


def opening(text=BAR, spool=SPOOL):
    text = numbers_of(text)
    return [1, *spool, len(text), *text]


def feeding(text=STRIP):
    text = numbers_of(text)
    return [2, len(text), *text]


def take_apart(answered):
    parts = []
    place = 0
    while place < len(answered):
        behind = place + 1 + answered[place]
        parts.append(answered[place + 1:behind])
        place = behind
    if place != len(answered):
        raise AssertionError("the counts don't fit the list")
    return parts


def ask(*calls):
    return take_apart(answers([number for call in calls for number in call]))


def fault(place):
    return [-6, 1, place, 0]


def strip_of(width, rows):
    """A strip's text with that many rows, all in one run or none."""
    return f"strip {width}\n" + (f"{rows} 0\n" if rows else "")


def stepping(rows=GREATEST, events=GREATEST):
    return [4, rows, events]


def lever(turn_time):
    return [5, turn_time]


def bar_text(meanings, tail=0, split=64, force=(0, 0, 0), swell=(0, 0, 0), width=None):
    """A bar's text: track 0 means the first of the meanings, and so on; an empty one is none."""
    width = width or len(meanings)
    lines = [f"bar {width} {split}", f"tail {tail}", "force {} {} {}".format(*force), "swell {} {} {}".format(*swell)]
    lines += [f"{track} {meaning}" for track, meaning in enumerate(meanings) if meaning]
    return "".join(line + "\n" for line in lines)


def strip_text(width, rows):
    """A strip's text; each of the rows is a list of the tracks that have a hole."""
    runs = []
    for row in rows:
        if runs and runs[-1][1] == sorted(row):
            runs[-1][0] += 1
        else:
            runs.append([1, sorted(row)])
    return f"strip {width}\n" + "".join(" ".join(map(str, [how_many, *holes])) + "\n" for how_many, holes in runs)


def list_of(answer):
    """An answer's list, once its form has been looked at."""
    if len(answer) == 1:
        return []
    if answer[1] == 0 or answer[1] != len(answer) - 3 or answer[-1] != 0:
        raise AssertionError(f"not an answer's form: {answer}")
    return answer[2:-1]


def events_of(answer):
    numbers = list_of(answer)
    if len(numbers) % 5:
        raise AssertionError("not five numbers of each event")
    return [tuple(numbers[k:k + 5]) for k in range(0, len(numbers), 5)]


def told(answer):
    return answer[0], events_of(answer)


def play(bar, width, rows, spool=PLAIN_SPOOL):
    """All events of these rows, 256 at most, and of those behind them."""
    answered = ask(opening(bar, spool), feeding(strip_text(width, rows)), LAST, *70 * [STEP_ON])
    if answered[:3] != [[0]] * 3 or answered[-1] != [2]:
        raise AssertionError("not played to its end")
    return [event for answer in answered[3:] for event in events_of(answer)]
