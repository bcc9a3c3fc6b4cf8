"""Rounding by the five modes, to whole numbers and to the formats."""

from floathalf.flags import NX, OF, UF
from floathalf.formats import fraction_bits, greatest_exponent, greatest_finite
from floathalf.formats import infinity, least_exponent, with_sign

TOWARD_ZERO = 1
DOWN = 2
UP = 3
NEAREST_AWAY = 4


def grows(mode, sign, kept, rest, middle):
    """Whether the size kept grows by 1 for the rest that is cut off, which is not 0."""
    if mode == TOWARD_ZERO:
        return False
    if mode == DOWN:
        return sign == 1
    if mode == UP:
        return sign == 0
    if rest == middle:
        return mode == NEAREST_AWAY or kept % 2 == 1
    return rest > middle


def cut(mode, sign, n, drop):
    """The size n / 2^drop of a number of that sign, rounded to a whole number."""
    if drop <= 0:
        return n << -drop
    kept = n >> drop
    rest = n - (kept << drop)
    if rest != 0 and grows(mode, sign, kept, rest, 1 << (drop - 1)):
        return kept + 1
    return kept


def is_cut_exactly(n, drop):
    """Whether n / 2^drop is a whole number."""
    return drop <= 0 or (n >> drop) << drop == n


def is_tiny(form, mode, sign, n, k):
    """Whether n times 2^k, rounded as if exponents had no end below, is less than the least normal number."""
    grid = n.bit_length() - 1 + k - fraction_bits(form)
    return cut(mode, sign, n, grid - k).bit_length() + grid <= least_exponent(form)


def overflowed(form, mode, sign):
    """Bits and flags where the rounded number is above the format's range."""
    stays_finite = mode == TOWARD_ZERO or (mode == DOWN and sign == 0) or (mode == UP and sign == 1)
    if stays_finite:
        return (greatest_finite(form, sign), OF | NX)
    return (infinity(form, sign), OF | NX)


def rounded(form, mode, sign, n, k):
    """Bits and flags of the number of that sign and of the size n times 2^k; n is not 0."""
    places = fraction_bits(form)
    lowest_grid = least_exponent(form) - places
    grid = max(n.bit_length() - 1 + k - places, lowest_grid)
    kept = cut(mode, sign, n, grid - k)
    if kept.bit_length() + grid > greatest_exponent(form) + 1:
        return overflowed(form, mode, sign)
    # The leading bit of a normal number's kept adds the last 1 of its exponent field, and
    # so does a size that rounding has carried to the next power of two.
    bits = with_sign(form, sign, ((grid - lowest_grid) << places) + kept)
    if is_cut_exactly(n, grid - k):
        return (bits, 0)
    if is_tiny(form, mode, sign, n, k):
        return (bits, UF | NX)
    return (bits, NX)
