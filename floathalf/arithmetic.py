"""The operations 0 to 8: each gives the bits and the flags of the exact result, rounded once."""

from floathalf.flags import DZ, NV, signaling_flags
from floathalf.formats import canonical_nan, finite_parts, fraction_bits, infinity
from floathalf.formats import is_infinite, is_nan, is_zero, negated, sign_of, zero
from floathalf.rounding import DOWN, rounded


def invalid(form):
    """The answer of an operation that has no result."""
    return (canonical_nan(form), NV)


def answer_of_nans(form, operands):
    """The answer of an operation that looks at a NaN among these operands."""
    return (canonical_nan(form), signaling_flags(form, operands))


def rounded_sum(form, mode, first, second):
    """Of two finite numbers, each as its sign, n and k for the size n times 2^k."""
    sign, n, k = first
    other_sign, other_n, other_k = second
    if n == 0 and other_n == 0 and sign == other_sign:
        return (zero(form, sign), 0)
    low = min(k, other_k)
    total = (1 - 2 * sign) * (n << (k - low)) + (1 - 2 * other_sign) * (other_n << (other_k - low))
    if total == 0:
        return (zero(form, 1 if mode == DOWN else 0), 0)
    return rounded(form, mode, 1 if total < 0 else 0, abs(total), low)


def add(form, mode, a, b):
    """Operation 0."""
    if is_nan(form, a) or is_nan(form, b):
        return answer_of_nans(form, (a, b))
    if is_infinite(form, a):
        if is_infinite(form, b) and sign_of(form, a) != sign_of(form, b):
            return invalid(form)
        return (infinity(form, sign_of(form, a)), 0)
    if is_infinite(form, b):
        return (infinity(form, sign_of(form, b)), 0)
    return rounded_sum(form, mode, finite_parts(form, a), finite_parts(form, b))


def subtract(form, mode, a, b):
    """Operation 1."""
    return add(form, mode, a, negated(form, b))


def is_infinity_times_zero(form, a, b):
    """Whether the product of these two has no value."""
    if is_infinite(form, a):
        return is_zero(form, b)
    return is_zero(form, a) and is_infinite(form, b)


def product_parts(form, a, b):
    """The exact product of two finite numbers as its sign, n and k for the size n times 2^k."""
    a_sign, a_n, a_k = finite_parts(form, a)
    b_sign, b_n, b_k = finite_parts(form, b)
    return (a_sign ^ b_sign, a_n * b_n, a_k + b_k)


def multiply(form, mode, a, b):
    """Operation 2."""
    if is_nan(form, a) or is_nan(form, b):
        return answer_of_nans(form, (a, b))
    if is_infinity_times_zero(form, a, b):
        return invalid(form)
    sign = sign_of(form, a) ^ sign_of(form, b)
    if is_infinite(form, a) or is_infinite(form, b):
        return (infinity(form, sign), 0)
    if is_zero(form, a) or is_zero(form, b):
        return (zero(form, sign), 0)
    n, k = product_parts(form, a, b)[1:]
    return rounded(form, mode, sign, n, k)


def enough_bits(form):
    """So many bits of a result, and one more for all that follows them, round as the whole result does.

    They reach one place below the format's last one, so every number at which a rounding
    turns over is a multiple of their last place.
    """
    return fraction_bits(form) + 2


def marked(kept, exact):
    """The bits kept and one more, which tells whether anything other than 0 follows them."""
    if exact:
        return 2 * kept
    return 2 * kept + 1


def rounded_quotient(form, mode, sign, first, second):
    """Of two sizes other than 0, each as n and k for n times 2^k."""
    n, k = first
    other_n, other_k = second
    shift = max(0, enough_bits(form) + other_n.bit_length() - n.bit_length())
    kept, rest = divmod(n << shift, other_n)
    return rounded(form, mode, sign, marked(kept, rest == 0), k - other_k - shift - 1)


def divide(form, mode, a, b):
    """Operation 3."""
    if is_nan(form, a) or is_nan(form, b):
        return answer_of_nans(form, (a, b))
    sign = sign_of(form, a) ^ sign_of(form, b)
    if is_infinite(form, a):
        if is_infinite(form, b):
            return invalid(form)
        return (infinity(form, sign), 0)
    if is_zero(form, b):
        if is_zero(form, a):
            return invalid(form)
        return (infinity(form, sign), DZ)
    if is_infinite(form, b) or is_zero(form, a):
        return (zero(form, sign), 0)
    return rounded_quotient(form, mode, sign, finite_parts(form, a)[1:], finite_parts(form, b)[1:])


def whole_root(n):
    """The greatest whole number whose square is not above n; n is not 0."""
    guess = 1 << ((n.bit_length() + 1) // 2)
    better = (guess + n // guess) // 2
    while better < guess:
        guess = better
        better = (guess + n // guess) // 2
    return guess


def rounded_root(form, mode, n, k):
    """Of the size n times 2^k, which is not 0."""
    shift = max(0, 2 * enough_bits(form) - n.bit_length())
    # Only an even power of two has a root that is a power of two.
    shift = shift + (k - shift) % 2
    wide = n << shift
    kept = whole_root(wide)
    return rounded(form, mode, 0, marked(kept, kept * kept == wide), (k - shift) // 2 - 1)


def root(form, mode, a):
    """Operation 4."""
    if is_nan(form, a):
        return answer_of_nans(form, (a,))
    sign, n, k = finite_parts(form, a)
    if is_zero(form, a):
        return (zero(form, sign), 0)
    if sign == 1:
        return invalid(form)
    if is_infinite(form, a):
        return (infinity(form, 0), 0)
    return rounded_root(form, mode, n, k)


def fuse(form, mode, a, b, c):
    """Operation 5."""
    if is_infinity_times_zero(form, a, b):
        return invalid(form)
    if is_nan(form, a) or is_nan(form, b) or is_nan(form, c):
        return answer_of_nans(form, (a, b, c))
    sign = sign_of(form, a) ^ sign_of(form, b)
    if is_infinite(form, a) or is_infinite(form, b):
        if is_infinite(form, c) and sign != sign_of(form, c):
            return invalid(form)
        return (infinity(form, sign), 0)
    if is_infinite(form, c):
        return (infinity(form, sign_of(form, c)), 0)
    return rounded_sum(form, mode, product_parts(form, a, b), finite_parts(form, c))


def fuse_turned(form, operation, mode, a, b, c):
    """Operations 5 to 8; turning a's sign over turns the product's."""
    first = negated(form, a) if operation >= 7 else a
    addend = negated(form, c) if operation % 2 == 0 else c
    return fuse(form, mode, first, b, addend)
