"""A float of 32 bits, kept as one whole number: how many times 2^-149 it is.

2^-149 is the smallest float above 0 and every float is a whole number of it,
so no float needs an exponent of its own beside it.
"""

UNIT_BITS = 149


# Only for e from -149 on: below that z 2^e may lie between two units.
def units_of(z, e):
    return z << (e + UNIT_BITS)
