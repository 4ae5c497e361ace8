"""The desk that the calls are made on, and what each of them answers."""

from voicesounds.checks import NotAsTold, handed_float, whole_within
from voicesounds.voice import FIRST_DRAW, LET_GO, RISING, STILL, Voice

VOICE_COUNT = 8
OPENING = 1

DONE = 0
NOT_AS_TOLD = -2
NOTHING_OPEN = -7


class NothingOpen(ValueError):
    pass


# Without voices nothing is open.
class Desk:
    def __init__(self):
        self.voices = []


def voice_at(desk, k):
    return desk.voices[whole_within(k, 0, VOICE_COUNT - 1)]


# In each of the calls all numbers are looked at before the first one is kept: a refusal changes nothing.

def begin_anew(desk, numbers):
    desk.voices = [Voice() for k in range(VOICE_COUNT)]
    return [DONE]


def set_voice(desk, numbers):
    voice = voice_at(desk, numbers[0])
    wave = whole_within(numbers[1], 0, 3)
    width = whole_within(numbers[2], 0, 2 ** 32 - 1)
    level = handed_float(numbers[3], numbers[4], 1)
    left = handed_float(numbers[5], numbers[6], 1)
    right = handed_float(numbers[7], numbers[8], 1)
    voice.wave = wave
    voice.width = width
    voice.level = level
    voice.left = left
    voice.right = right
    return [DONE]


def set_filter(desk, numbers):
    voice = voice_at(desk, numbers[0])
    mode = whole_within(numbers[1], 0, 3)
    cut = handed_float(numbers[2], numbers[3], 1)
    damp = handed_float(numbers[4], numbers[5], 2)
    voice.mode = mode
    voice.cut = cut
    voice.damp = damp
    return [DONE]


def set_shape(desk, numbers):
    voice = voice_at(desk, numbers[0])
    rise = handed_float(numbers[1], numbers[2], 1)
    fall = handed_float(numbers[3], numbers[4], 1)
    keep = handed_float(numbers[5], numbers[6], 1)
    go = handed_float(numbers[7], numbers[8], 1)
    voice.rise = rise
    voice.fall = fall
    voice.keep = keep
    voice.go = go
    return [DONE]


def turn_on(desk, numbers):
    voice = voice_at(desk, numbers[0])
    voice.step = whole_within(numbers[1], 0, 2 ** 31)
    voice.phase = 0
    voice.draw = FIRST_DRAW
    voice.low = 0
    voice.band = 0
    # Env stays, so that a voice which still sounds rises from where it is.
    voice.stage = RISING
    return [DONE]


def turn_off(desk, numbers):
    voice = voice_at(desk, numbers[0])
    if voice.stage != STILL:
        voice.stage = LET_GO
    return [DONE]


ACTIONS = {
    1: begin_anew,
    2: set_voice,
    3: set_filter,
    4: set_shape,
    5: turn_on,
    6: turn_off,
}


def carry_out(desk, call, numbers):
    if call != OPENING and not desk.voices:
        raise NothingOpen()
    action = ACTIONS[call]
    return action(desk, numbers)


def answer_to(desk, call, numbers):
    try:
        return carry_out(desk, call, numbers)
    except NothingOpen:
        return [NOTHING_OPEN]
    except NotAsTold:
        return [NOT_AS_TOLD]


def answers_at(desk, calls):
    told = []
    place = 0
    while place < len(calls):
        first = place + 2
        behind = first + calls[place + 1]
        answer = answer_to(desk, calls[place], calls[first:behind])
        told.append(len(answer))
        told.extend(answer)
        # One number stands behind a call's numbers: how many lists it has, and that is 0 always.
        place = behind + 1
    return told


def answers(calls):
    return answers_at(Desk(), calls)
