"""Whole numbers as the machine's 64 bits hold them."""


def wrapped(number):
    """The number modulo 2^64."""
    return number % 2 ** 64


def signed(number, bits):
    """What the number's lowest bits are, so many of them, where the uppermost one is the sign."""
    sign = 1 << (bits - 1)
    return ((number & (2 * sign - 1)) ^ sign) - sign
