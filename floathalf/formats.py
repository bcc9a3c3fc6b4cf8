"""Numbers as bits, in the formats 0 single, 1 double and 2 half.

Of bits handed in, those above the format's width are never looked at.
"""

WIDTHS = (32, 64, 16)
EXPONENT_BITS = (8, 11, 5)
FRACTION_BITS = (23, 52, 10)


def fraction_bits(form):
    """How many bits the fraction field has."""
    return FRACTION_BITS[form]


def greatest_exponent(form):
    """The exponent field's bias, which is the greatest finite number's exponent too."""
    return (1 << (EXPONENT_BITS[form] - 1)) - 1


def least_exponent(form):
    """The least normal number is 2 to this power."""
    return 1 - greatest_exponent(form)


def sign_of(form, a):
    """The sign bit."""
    return (a >> (WIDTHS[form] - 1)) & 1


def own_bits(form, a):
    """The bits without those above the format's width."""
    return a & ((1 << WIDTHS[form]) - 1)


def size_bits(form, a):
    """All bits below the sign. As whole numbers they stand in the order of the numbers' sizes."""
    return a & ((1 << (WIDTHS[form] - 1)) - 1)


def with_sign(form, sign, size):
    """The bits of a number, put together from its sign and the bits below."""
    return (sign << (WIDTHS[form] - 1)) + size


def negated(form, a):
    """The bits with the sign turned over."""
    return with_sign(form, 1 - sign_of(form, a), size_bits(form, a))


def infinite_size(form):
    """An infinity's bits below the sign; those of a NaN are above it, all others below it."""
    return ((1 << EXPONENT_BITS[form]) - 1) << FRACTION_BITS[form]


def is_nan(form, a):
    """Whether it is a NaN of either sort."""
    return size_bits(form, a) > infinite_size(form)


def is_signaling(form, a):
    """Whether it is a signaling NaN."""
    return is_nan(form, a) and (a >> (FRACTION_BITS[form] - 1)) & 1 == 0


def is_infinite(form, a):
    """Whether it is an infinity of either sign."""
    return size_bits(form, a) == infinite_size(form)


def is_zero(form, a):
    """Whether it is a zero of either sign."""
    return size_bits(form, a) == 0


def is_subnormal(form, a):
    """Whether it is a subnormal number other than 0."""
    return 0 < size_bits(form, a) < 1 << FRACTION_BITS[form]


def zero(form, sign):
    """The bits of the zero of that sign."""
    return with_sign(form, sign, 0)


def infinity(form, sign):
    """The bits of the infinity of that sign."""
    return with_sign(form, sign, infinite_size(form))


def greatest_finite(form, sign):
    """The bits of the finite number of that sign that is furthest from zero."""
    return with_sign(form, sign, infinite_size(form) - 1)


def canonical_nan(form):
    """The bits of the one NaN that operations answer."""
    return infinite_size(form) + (1 << (FRACTION_BITS[form] - 1))


def finite_parts(form, a):
    """A finite number as its sign, a whole number n and a power k: its size is n times 2^k."""
    places = FRACTION_BITS[form]
    size = size_bits(form, a)
    field = size >> places
    fraction = size - (field << places)
    if field == 0:
        return (sign_of(form, a), fraction, least_exponent(form) - places)
    return (sign_of(form, a), fraction + (1 << places), field - greatest_exponent(form) - places)
