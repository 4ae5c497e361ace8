"""A float of 32 bits, kept as one whole number: how many times 2^-149 it is.

2^-149 is the smallest float above 0 and every float is a whole number of it,
so no float needs an exponent of its own beside it, and minus 0 is 0.
No result comes near the greatest float, so none is looked at for that.
"""

UNIT_BITS = 149
FLOAT_BITS = 24
HELD_AT = 16


# Only for e from -149 on: below that z 2^e may lie between two units.
def units_of(z, e):
    return z << (e + UNIT_BITS)


# The nearest to number / 2^bits, of two as near the even one; bits is 1 or more.
def nearest_whole(number, bits):
    half = 1 << (bits - 1)
    # A rest of just half is carried only where the number below is odd; >> rounds down, below 0 too.
    odd = (number >> bits) & 1
    return (number + half - 1 + odd) >> bits


# Exact is a count of units / 2^finer.
def nearest_float(exact, finer):
    lost = exact.bit_length() - FLOAT_BITS
    # Among the denormals a float has fewer bits: nothing is finer than a unit.
    if lost < finer:
        lost = finer
    if lost == 0:
        return exact
    return nearest_whole(exact, lost) << (lost - finer)


def plus(a, b):
    return nearest_float(a + b, 0)


def minus(a, b):
    return nearest_float(a - b, 0)


def times(a, b):
    return nearest_float(a * b, UNIT_BITS)


def made_float(whole):
    return nearest_float(units_of(whole, 0), 0)


def held(a):
    most = units_of(HELD_AT, 0)
    return max(-most, min(most, a))


# The two numbers that a float is told as.
def told_float(a):
    if a == 0:
        return [0, 0]
    last_bit = a & -a
    zeros = last_bit.bit_length() - 1
    return [a >> zeros, zeros - UNIT_BITS]
