"""The parts of an instruction's word, and the offsets that are put together from them."""

from floathalf.wholes import signed


def opcode_of(word):
    """Bits 0 to 6."""
    return word & 0x7F


def rd_of(word):
    """Bits 7 to 11."""
    return (word >> 7) & 31


def f3_of(word):
    """Bits 12 to 14."""
    return (word >> 12) & 7


def rs1_of(word):
    """Bits 15 to 19."""
    return (word >> 15) & 31


def rs2_of(word):
    """Bits 20 to 24."""
    return (word >> 20) & 31


def fm_of(word):
    """Bits 25 to 26."""
    return (word >> 25) & 3


def f7_of(word):
    """Bits 25 to 31."""
    return word >> 25


def f5_of(word):
    """Bits 27 to 31."""
    return word >> 27


def rs3_of(word):
    """The same bits, where they name an operand."""
    return word >> 27


def control_of(word):
    """Bits 20 to 31, where they name fflags, frm or fcsr."""
    return word >> 20


def offset_i(word):
    """The offset I."""
    return signed(word >> 20, 12)


def offset_s(word):
    """The offset S."""
    return signed((f7_of(word) << 5) + rd_of(word), 12)


def offset_b(word):
    """The offset B, of branches."""
    low = (((word >> 25) & 63) << 5) + (((word >> 8) & 15) << 1)
    return signed(((word >> 31) << 12) + (((word >> 7) & 1) << 11) + low, 13)


def offset_j(word):
    """The offset J, of jumps."""
    low = (((word >> 20) & 1) << 11) + (((word >> 21) & 1023) << 1)
    return signed(((word >> 31) << 20) + (((word >> 12) & 255) << 12) + low, 21)
