"""The calls on one object, in one list of whole numbers, and what they answer, in another."""

from paperroll.bars import read_bar
from paperroll.playing import Player
from paperroll.reading import Fault
from paperroll.spools import Spool, are_in_range
from paperroll.strips import read_strip

OPENING = 1
FEEDING = 2
LAST = 3
STEP = 4
LEVER = 5
# How many whole numbers each call has before its text.
HOW_MANY_NUMBERS = {1: 4, 2: 0, 3: 0, 4: 2, 5: 1, 6: 0}
CALLS_WITH_TEXT = (1, 2)
TAKEN = 0
OUT_OF_RANGE = -1
AT_FAULT = -6
NO_PLAYER = -8


class Holder:
    """The object that is called: it has a player, or None yet."""

    def __init__(self):
        self.player = None


class Call:
    """The call that begins at a place of the list; behind is where the next one begins."""

    def __init__(self, calls, start):
        self.which = calls[start]
        self.behind = start + 1 + HOW_MANY_NUMBERS[self.which]
        self.numbers = calls[start + 1:self.behind]
        self.text = []
        if self.which in CALLS_WITH_TEXT:
            text_start = self.behind + 1
            self.behind = text_start + calls[self.behind]
            self.text = calls[text_start:self.behind]


def answers(calls):
    holder = Holder()
    answered = []
    place = 0
    while place < len(calls):
        call = Call(calls, place)
        answer = answer_call(holder, call)
        answered.append(len(answer))
        answered.extend(answer)
        place = call.behind
    return answered


def answer_call(holder, call):
    if call.which == OPENING:
        return answer_opening(holder, call)
    if holder.player is None:
        return [NO_PLAYER]
    return answer_with_player(holder.player, call)


def answer_with_player(player, call):
    if call.which == FEEDING:
        return answer_feeding(player, call.text)
    if call.which == LAST:
        return [player.end_feeding()]
    if call.which == STEP:
        return answer_step(player, call.numbers)
    if call.which == LEVER:
        return [player.set_lever(call.numbers[0])]
    return answer_with_list(TAKEN, player.now())


def answer_opening(holder, call):
    try:
        bar = read_bar(call.text)
    except Fault as fault:
        return answer_with_list(AT_FAULT, [fault.place])
    if not are_in_range(call.numbers):
        return [OUT_OF_RANGE]
    holder.player = Player(bar, Spool(call.numbers))
    return [TAKEN]


def answer_feeding(player, text):
    try:
        strip = read_strip(text)
    except Fault as fault:
        return answer_with_list(AT_FAULT, [fault.place])
    return [player.feed(strip)]


def answer_step(player, numbers):
    stepped = player.take_step(numbers[0], numbers[1])
    told = []
    for event in stepped[1]:
        told.extend(event)
    return answer_with_list(stepped[0], told)


def answer_with_list(number, numbers):
    if len(numbers) == 0:
        return [number]
    # No text is ever answered: its length, 0, closes the answer.
    return [number, len(numbers)] + numbers + [0]
