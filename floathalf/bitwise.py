"""What is told from operands' bits alone: least, greatest, signs, comparisons and classes."""

from floathalf.flags import NV, signaling_flags
from floathalf.formats import canonical_nan, is_infinite, is_nan, is_signaling, is_subnormal
from floathalf.formats import is_zero, own_bits, sign_of, size_bits, with_sign

EQUAL = 0
LESS = 1
LESS_OR_EQUAL = 2
QUIETLY_LESS = 3


def place(form, a):
    """A whole number that stands to others as the number does; both zeros have the place 0."""
    if sign_of(form, a) == 1:
        return -size_bits(form, a)
    return size_bits(form, a)


def goes_first(form, a, b):
    """Whether a is the less of two numbers, or as great as b; -0 is less than +0."""
    if is_zero(form, a) and is_zero(form, b):
        return sign_of(form, a) == 1
    return place(form, a) <= place(form, b)


def chosen(form, greatest, a, b):
    """The less of a and b, the greater if greatest is true, as it is handed in."""
    if is_nan(form, a) and is_nan(form, b):
        return canonical_nan(form)
    if is_nan(form, a):
        return b
    if is_nan(form, b):
        return a
    if goes_first(form, a, b) == greatest:
        return b
    return a


def choose(form, greatest, a, b):
    """Operations 9 and 10."""
    return (own_bits(form, chosen(form, greatest, a, b)), signaling_flags(form, (a, b)))


def give_sign(form, operation, a, b):
    """Operations 11 to 13."""
    sign = sign_of(form, b)
    if operation == 12:
        sign = 1 - sign
    if operation == 13:
        sign = sign_of(form, a) ^ sign
    return (with_sign(form, sign, size_bits(form, a)), 0)


def compare_nans(form, kind, a, b):
    """The answer and the flags of a comparison where one operand is a NaN."""
    if kind == LESS or kind == LESS_OR_EQUAL:
        return (0, NV)
    return (0, signaling_flags(form, (a, b)))


def holds(form, kind, a, b):
    """Whether the comparison of two numbers is so."""
    if kind == EQUAL:
        return place(form, a) == place(form, b)
    if kind == LESS or kind == QUIETLY_LESS:
        return place(form, a) < place(form, b)
    return place(form, a) <= place(form, b)


def compare(form, kind, a, b):
    """1 if the comparison is so, else 0, and the flags."""
    if is_nan(form, a) or is_nan(form, b):
        return compare_nans(form, kind, a, b)
    return (1 if holds(form, kind, a, b) else 0, 0)


def class_below(form, a):
    """The number of the class's bit, were the sign 1; a is no NaN."""
    if is_infinite(form, a):
        return 0
    if is_zero(form, a):
        return 3
    return 2 if is_subnormal(form, a) else 1


def class_of(form, a):
    """2 to the number of the bit of a's class."""
    if is_nan(form, a):
        return 1 << (8 if is_signaling(form, a) else 9)
    if sign_of(form, a) == 1:
        return 1 << class_below(form, a)
    # The classes of positive numbers are those of negative ones seen in a mirror.
    return 1 << (7 - class_below(form, a))
