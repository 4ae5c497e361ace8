"""The desk that the calls are made on, and what each of them answers."""

from voicesounds.checks import NotAsTold, handed_float, whole_within
from voicesounds.echo import Echo
from voicesounds.floats import told_float
from voicesounds.mix import sample_of_all
from voicesounds.samples import blended, measured
from voicesounds.voice import FIRST_DRAW, LET_GO, RISING, STILL, Voice

VOICE_COUNT = 8
MOST_ECHO = 1024
MOST_PLAYED = 256
MOST_IN_ROW = 512
OPENING = 1

DONE = 0
NOT_AS_TOLD = -2
NOTHING_OPEN = -7


class NothingOpen(ValueError):
    pass


# Without voices nothing is open.
class Desk:
    def __init__(self):
        self.voices = []
        self.echo = Echo(0, 0, 0)


def voice_at(desk, k):
    return desk.voices[whole_within(k, 0, VOICE_COUNT - 1)]


# In each of the calls all numbers are looked at before the first one is kept: a refusal changes nothing.

def begin_anew(desk, numbers):
    desk.voices = [Voice() for k in range(VOICE_COUNT)]
    desk.echo = Echo(0, 0, 0)
    return [DONE]


def set_voice(desk, numbers):
    voice = voice_at(desk, numbers[0])
    wave = whole_within(numbers[1], 0, 3)
    width = whole_within(numbers[2], 0, 2 ** 32 - 1)
    level = handed_float(numbers[3], numbers[4], 1)
    left = handed_float(numbers[5], numbers[6], 1)
    right = handed_float(numbers[7], numbers[8], 1)
    voice.wave = wave
    voice.width = width
    voice.level = level
    voice.left = left
    voice.right = right
    return [DONE]


def set_filter(desk, numbers):
    voice = voice_at(desk, numbers[0])
    mode = whole_within(numbers[1], 0, 3)
    cut = handed_float(numbers[2], numbers[3], 1)
    damp = handed_float(numbers[4], numbers[5], 2)
    voice.mode = mode
    voice.cut = cut
    voice.damp = damp
    return [DONE]


def set_shape(desk, numbers):
    voice = voice_at(desk, numbers[0])
    rise = handed_float(numbers[1], numbers[2], 1)
    fall = handed_float(numbers[3], numbers[4], 1)
    keep = handed_float(numbers[5], numbers[6], 1)
    go = handed_float(numbers[7], numbers[8], 1)
    voice.rise = rise
    voice.fall = fall
    voice.keep = keep
    voice.go = go
    return [DONE]


def turn_on(desk, numbers):
    voice = voice_at(desk, numbers[0])
    voice.step = whole_within(numbers[1], 0, 2 ** 31)
    voice.phase = 0
    voice.draw = FIRST_DRAW
    voice.low = 0
    voice.band = 0
    # Env stays, so that a voice which still sounds rises from where it is.
    voice.stage = RISING
    return [DONE]


def turn_off(desk, numbers):
    voice = voice_at(desk, numbers[0])
    if voice.stage != STILL:
        voice.stage = LET_GO
    return [DONE]


def set_echo(desk, numbers):
    length = whole_within(numbers[0], 0, MOST_ECHO)
    feed = handed_float(numbers[1], numbers[2], 1)
    heard = handed_float(numbers[3], numbers[4], 1)
    desk.echo = Echo(length, feed, heard)
    return [DONE]


def play(desk, numbers):
    count = whole_within(numbers[0], 1, MOST_PLAYED)
    answer = [count]
    for k in range(count):
        answer.extend(sample_of_all(desk.voices, desk.echo))
    return answer


def tell_voice(desk, numbers):
    voice = voice_at(desk, numbers[0])
    return [voice.stage, voice.phase] + told_float(voice.env) + told_float(voice.low) + told_float(voice.band)


def count_sounding(desk, numbers):
    return [len([voice for voice in desk.voices if voice.stage != STILL])]


def blend(desk, numbers):
    count = whole_within(numbers[0], 0, MOST_IN_ROW)
    g = whole_within(numbers[1], 0, 32767)
    second = 2 + count
    return [count] + blended(numbers[2:second], numbers[second:], g)


def measure(desk, numbers):
    whole_within(numbers[0], 0, MOST_IN_ROW)
    return [DONE] + measured(numbers[1:])


ACTIONS = {
    1: begin_anew,
    2: set_voice,
    3: set_filter,
    4: set_shape,
    5: turn_on,
    6: turn_off,
    7: set_echo,
    8: play,
    9: tell_voice,
    10: count_sounding,
    11: blend,
    12: measure,
}


def carry_out(desk, call, numbers):
    if call != OPENING and not desk.voices:
        raise NothingOpen()
    action = ACTIONS[call]
    return action(desk, numbers)


def answer_to(desk, call, numbers):
    try:
        return carry_out(desk, call, numbers)
    except NothingOpen:
        return [NOTHING_OPEN]
    except NotAsTold:
        return [NOT_AS_TOLD]


def answers_at(desk, calls):
    told = []
    place = 0
    while place < len(calls):
        first = place + 2
        behind = first + calls[place + 1]
        answer = answer_to(desk, calls[place], calls[first:behind])
        told.append(len(answer))
        told.extend(answer)
        # One number stands behind a call's numbers: how many lists it has, and that is 0 always.
        place = behind + 1
    return told


def answers(calls):
    return answers_at(Desk(), calls)
