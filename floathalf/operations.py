"""The operations by their numbers, 0 to 15."""

from floathalf.arithmetic import add, divide, fuse_turned, multiply, root, subtract
from floathalf.bitwise import choose, give_sign
from floathalf.conversions import round_within, round_within_silently


def arithmetic_answer(form, operation, mode, operands):
    """Bits and flags of the operations 0 to 8."""
    a, b, c = operands
    if operation == 0:
        return add(form, mode, a, b)
    if operation == 1:
        return subtract(form, mode, a, b)
    if operation == 2:
        return multiply(form, mode, a, b)
    if operation == 3:
        return divide(form, mode, a, b)
    if operation == 4:
        return root(form, mode, a)
    return fuse_turned(form, operation, mode, a, b, c)


def operate(form, operation, mode, operands):
    """Bits and flags of the operation on its operands a, b and c."""
    a, b, c = operands
    if operation <= 8:
        return arithmetic_answer(form, operation, mode, operands)
    if operation <= 10:
        return choose(form, operation == 10, a, b)
    if operation <= 13:
        return give_sign(form, operation, a, b)
    if operation == 14:
        return round_within_silently(form, mode, a)
    return round_within(form, mode, a)
