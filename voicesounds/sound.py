"""A sample of one voice: its shape, its tone and its filter, and how it goes on from there."""

from voicesounds.floats import held, made_float, minus, plus, times, units_of
from voicesounds.voice import FALLING, RISING, STILL

# Let go, a voice is still when its env is below 2 to this.
STILL_BELOW_E = -20


def rise(voice):
    one = units_of(1, 0)
    voice.env = plus(voice.env, voice.rise)
    if voice.env >= one:
        voice.env = one
        voice.stage = FALLING


def fall(voice):
    above = minus(voice.env, voice.keep)
    voice.env = plus(voice.keep, times(above, voice.fall))


def die_away(voice):
    voice.env = times(voice.env, voice.go)
    if voice.env < units_of(1, STILL_BELOW_E):
        voice.env = 0
        voice.stage = STILL


# By the stage at the sample's beginning: one that it comes to here is for the next sample.
def shape_goes_on(voice):
    if voice.stage == RISING:
        rise(voice)
    elif voice.stage == FALLING:
        fall(voice)
    else:
        die_away(voice)


# From -1 to 1: the 32 bits with their sign, made a float, over 2^31.
def part_of_turn(bits):
    signed = bits - 2 ** 32 if bits >= 2 ** 31 else bits
    # No bit is lost: what is made a float from a whole number has none below 1.
    return made_float(signed) >> 31


def falling_wave(voice):
    return part_of_turn(voice.phase)


def up_or_down_wave(voice):
    return units_of(1 if voice.phase < voice.width else -1, 0)


def up_and_down_wave(voice):
    return minus(2 * abs(part_of_turn(voice.phase)), units_of(1, 0))


def noise_wave(voice):
    return part_of_turn(voice.draw)


WAVES = (falling_wave, up_or_down_wave, up_and_down_wave, noise_wave)


# The filter's memory goes on in every mode, also where x comes out as it is.
def filtered(voice, x):
    low = held(plus(voice.low, times(voice.cut, voice.band)))
    high = held(minus(minus(x, low), times(voice.damp, voice.band)))
    band = held(plus(voice.band, times(voice.cut, high)))
    voice.low = low
    voice.band = band
    return (x, low, band, high)[voice.mode]


def within_32_bits(number):
    return number % 2 ** 32


def voice_sample(voice):
    if voice.stage == STILL:
        return 0
    shape_goes_on(voice)
    wave = WAVES[voice.wave]
    heard = filtered(voice, wave(voice))
    sample = times(times(heard, voice.env), voice.level)
    voice.phase = within_32_bits(voice.phase + voice.step)
    voice.draw = within_32_bits(1664525 * voice.draw + 1013904223)
    return sample
