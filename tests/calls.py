"""Writes calls the way answers gets them, and reads what it gives back."""

from fractions import Fraction

from voicesounds.desk import Desk, answers, answers_at

FAR = 2 ** 53
MOST_Z = 2 ** 24
ONE = (1, 0)
HALF = (1, -1)
NOUGHT = (0, 0)


def call(number, *numbers):
    return [number, len(numbers), *numbers, 0]


def opening():
    return call(1)


def voice(k=0, wave=0, width=0, level=ONE, left=ONE, right=ONE):
    return call(2, k, wave, width, *level, *left, *right)


def filtering(k=0, mode=0, cut=ONE, damp=ONE):
    return call(3, k, mode, *cut, *damp)


def shape(k=0, rise=ONE, fall=ONE, keep=ONE, go=ONE):
    return call(4, k, *rise, *fall, *keep, *go)


def on(k=0, step=0):
    return call(5, k, step)


def off(k=0):
    return call(6, k)


def echo(n=0, feed=ONE, heard=ONE):
    return call(7, n, *feed, *heard)


def play(n=1):
    return call(8, n)


def told(k=0):
    return call(9, k)


def sounding():
    return call(10)


def samples_for(n, count):
    """As many noughts as a call with this n has samples: none where n isn't as told."""
    return [0] * count if 0 <= n <= 512 else []


def blend(n=0, g=0, a=None, b=None):
    rows = samples_for(n, 2 * n) if a is None else [*a, *b]
    return call(11, n, g, *rows)


def measure(n=0, samples=None):
    row = samples_for(n, n) if samples is None else samples
    return call(12, n, *row)


def joined(calls):
    return [number for one in calls for number in one]


def one_by_one(given):
    """The answers in what is given back for a list, a list each."""
    found = []
    place = 0
    while place < len(given):
        behind = place + 1 + given[place]
        found.append(given[place + 1:behind])
        place = behind
    if place != len(given):
        raise AssertionError(f"the last answer is cut off: {given}")
    return found


def each_answer(*calls):
    return one_by_one(answers(joined(calls)))


def last_answer(*calls):
    return each_answer(*calls)[-1]


def first_numbers(*calls):
    """The numbers of answers that have one number each."""
    found = each_answer(*calls)
    if any(len(answer) != 1 for answer in found):
        raise AssertionError(f"not one number each: {found}")
    return [answer[0] for answer in found]


def once_open(one):
    """What a call is answered first right behind open."""
    return last_answer(opening(), one)[0]


def float_of(pair):
    """A float that is told as z and e."""
    z, e = pair
    return z * Fraction(2) ** e


def told_voice(answer):
    """What told answers: the stage, the phase, and env, low and band as fractions."""
    stage, phase, *floats = answer
    env, low, band = (float_of(floats[k:k + 2]) for k in (0, 2, 4))
    return stage, phase, env, low, band


def played(*calls):
    """What the last call, a play, is answered: pairs of left and right."""
    count, *samples = last_answer(*calls)
    if len(samples) != 2 * count:
        raise AssertionError(f"not two samples each: {count}, {samples}")
    return list(zip(samples[::2], samples[1::2]))


def desk_after(*calls):
    desk = Desk()
    answers_at(desk, joined(calls))
    return desk


def state(desk):
    return [dict(vars(each)) for each in desk.voices]


# Each float of a call, by the call's maker and the float's name, with the greatest that may be handed.
FLOATS = (
    (voice, "level", 1),
    (voice, "left", 1),
    (voice, "right", 1),
    (filtering, "cut", 1),
    (filtering, "damp", 2),
    (shape, "rise", 1),
    (shape, "fall", 1),
    (shape, "keep", 1),
    (shape, "go", 1),
    (echo, "feed", 1),
    (echo, "heard", 1),
)

# Each other number of a call, with the least and the greatest that may be handed.
WHOLES = (
    (voice, "k", 0, 7),
    (voice, "wave", 0, 3),
    (voice, "width", 0, 2 ** 32 - 1),
    (filtering, "k", 0, 7),
    (filtering, "mode", 0, 3),
    (shape, "k", 0, 7),
    (on, "k", 0, 7),
    (on, "step", 0, 2 ** 31),
    (off, "k", 0, 7),
    (echo, "n", 0, 1024),
    (play, "n", 1, 256),
    (told, "k", 0, 7),
    (blend, "n", 0, 512),
    (blend, "g", 0, 32767),
    (measure, "n", 0, 512),
)
