"""Writes calls the way answers gets them, and reads what it gives back."""

from voicesounds.desk import Desk, answers, answers_at

FAR = 2 ** 53
MOST_Z = 2 ** 24
ONE = (1, 0)
HALF = (1, -1)
NOUGHT = (0, 0)


def call(number, *numbers):
    return [number, len(numbers), *numbers, 0]


def opening():
    return call(1)


def voice(k=0, wave=0, width=0, level=ONE, left=ONE, right=ONE):
    return call(2, k, wave, width, *level, *left, *right)


def filtering(k=0, mode=0, cut=ONE, damp=ONE):
    return call(3, k, mode, *cut, *damp)


def shape(k=0, rise=ONE, fall=ONE, keep=ONE, go=ONE):
    return call(4, k, *rise, *fall, *keep, *go)


def on(k=0, step=0):
    return call(5, k, step)


def off(k=0):
    return call(6, k)


def joined(calls):
    return [number for one in calls for number in one]


def singles(told):
    """The first numbers of answers that have one number each."""
    if any(count != 1 for count in told[::2]) or len(told) % 2:
        raise AssertionError(f"not one number each: {told}")
    return told[1::2]


def first_numbers(*calls):
    return singles(answers(joined(calls)))


def once_open(one):
    """What a call is answered right behind open."""
    return first_numbers(opening(), one)[1]


def desk_after(*calls):
    desk = Desk()
    answers_at(desk, joined(calls))
    return desk


def state(desk):
    return [dict(vars(each)) for each in desk.voices]


# Each float of a call, by the call's maker and the float's name, with the greatest that may be handed.
FLOATS = (
    (voice, "level", 1),
    (voice, "left", 1),
    (voice, "right", 1),
    (filtering, "cut", 1),
    (filtering, "damp", 2),
    (shape, "rise", 1),
    (shape, "fall", 1),
    (shape, "keep", 1),
    (shape, "go", 1),
)

# Each other number of a call, with the least and the greatest that may be handed.
WHOLES = (
    (voice, "k", 0, 7),
    (voice, "wave", 0, 3),
    (voice, "width", 0, 2 ** 32 - 1),
    (filtering, "k", 0, 7),
    (filtering, "mode", 0, 3),
    (shape, "k", 0, 7),
    (on, "k", 0, 7),
    (on, "step", 0, 2 ** 31),
    (off, "k", 0, 7),
)
