"""Samples of 16 bits: how a float becomes one, and rows of them blended and measured."""

from voicesounds.floats import UNIT_BITS, nearest_whole

LEAST_SAMPLE = -32768
MOST_SAMPLE = 32767
SAMPLE_BITS = 15


def within_16_bits(whole):
    return max(LEAST_SAMPLE, min(MOST_SAMPLE, whole))


def in_16_bits(x):
    return within_16_bits(nearest_whole(x, UNIT_BITS - SAMPLE_BITS))


def over_32768(z):
    return (z + 16384) // 32768


def blended(first, second, g):
    return [within_16_bits(over_32768(a * (32767 - g)) + over_32768(b * g)) for a, b in zip(first, second)]


def risings(samples):
    count = 0
    for k in range(1, len(samples)):
        if samples[k - 1] < 0 and samples[k] >= 0:
            count = count + 1
    return count


def measured(samples):
    squares = sum([sample * sample for sample in samples])
    greatest = max([abs(sample) for sample in samples], default=0)
    return [squares, greatest, risings(samples)]
