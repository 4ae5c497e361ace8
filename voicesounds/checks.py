"""Which numbers may be handed to a call, and the refusal of those that may not."""

from voicesounds.floats import units_of

LEAST_E = -200
LEAST_FLOAT_E = -20


class NotAsTold(ValueError):
    pass


def whole_within(number, least, most):
    if number < least or number > most:
        raise NotAsTold()
    return number


# Most is a whole number: the greatest float that may be handed here.
def handed_float(z, e, most):
    # 0 is 0 with every e, also with those that lie below the smallest float.
    if z == 0:
        return 0
    # Counted in 2^-200, the least that e can say, all is whole: nothing is rounded before it is compared.
    size = z << (e - LEAST_E)
    if size < 1 << (LEAST_FLOAT_E - LEAST_E) or size > most << -LEAST_E:
        raise NotAsTold()
    # z is at most 2^24, so it needs no more than a float's 24 bits, and from 2^-20 on e is -44 or more.
    return units_of(z, e)
