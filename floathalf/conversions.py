"""From a format to another, to whole numbers and from them, and to whole numbers within a format."""

from floathalf.arithmetic import answer_of_nans
from floathalf.flags import NV, NX, signaling_flags
from floathalf.formats import canonical_nan, finite_parts, infinity, is_infinite, is_nan
from floathalf.formats import is_zero, sign_of, zero
from floathalf.rounding import cut, is_cut_exactly, rounded
from floathalf.wholes import signed, wrapped


def convert(source, goal, mode, a):
    """The number in the format goal, and the flags."""
    if is_nan(source, a):
        return (canonical_nan(goal), signaling_flags(source, (a,)))
    if is_infinite(source, a):
        return (infinity(goal, sign_of(source, a)), 0)
    if is_zero(source, a):
        return (zero(goal, sign_of(source, a)), 0)
    sign, n, k = finite_parts(source, a)
    return rounded(goal, mode, sign, n, k)


def round_within(form, mode, a):
    """Operation 15: the neighbour among the whole numbers, in the same format."""
    if is_nan(form, a):
        return answer_of_nans(form, (a,))
    if is_infinite(form, a):
        return (infinity(form, sign_of(form, a)), 0)
    sign, n, k = finite_parts(form, a)
    flags = 0 if is_cut_exactly(n, -k) else NX
    size = cut(mode, sign, n, -k)
    if size == 0:
        return (zero(form, sign), flags)
    return (rounded(form, mode, sign, size, 0)[0], flags)


def round_within_silently(form, mode, a):
    """Operation 14: the same, but NX is not raised."""
    bits, flags = round_within(form, mode, a)
    return (bits, flags & NV)


def bits_of_sort(sort):
    """How many bits a number of the sort has: 8, 16, 32 or 64."""
    return 8 << (sort // 2)


def has_sign(sort):
    """Whether the sort has numbers below 0."""
    return sort % 2 == 0


def least_of_sort(sort):
    """The least number of the sort."""
    if has_sign(sort):
        return -(1 << (bits_of_sort(sort) - 1))
    return 0


def greatest_of_sort(sort):
    """The greatest number of the sort."""
    return least_of_sort(sort) + (1 << bits_of_sort(sort)) - 1


def beyond_sort(sort, below):
    """The answer for what the sort has no number for."""
    if below:
        return (wrapped(least_of_sort(sort)), NV)
    return (wrapped(greatest_of_sort(sort)), NV)


def to_whole(form, sort, mode, a):
    """The number rounded to a whole number of the sort, and the flags."""
    if is_nan(form, a):
        return beyond_sort(sort, False)
    sign, n, k = finite_parts(form, a)
    if is_infinite(form, a):
        return beyond_sort(sort, sign == 1)
    size = cut(mode, sign, n, -k)
    number = -size if sign == 1 else size
    if number < least_of_sort(sort) or number > greatest_of_sort(sort):
        return beyond_sort(sort, number < 0)
    return (wrapped(number), 0 if is_cut_exactly(n, -k) else NX)


def number_of_sort(sort, v):
    """The number of the sort that v's low bits are."""
    if has_sign(sort):
        return signed(v, bits_of_sort(sort))
    return v % (1 << bits_of_sort(sort))


def from_whole(form, sort, mode, v):
    """The bits of the number of the sort that v's low bits are, and the flags."""
    number = number_of_sort(sort, v)
    if number == 0:
        return (zero(form, 0), 0)
    return rounded(form, mode, 1 if number < 0 else 0, abs(number), 0)
