"""The instructions that read and write fflags, frm, and fcsr, which is both."""

from floathalf.faults import require
from floathalf.words import control_of, f3_of, rd_of, rs1_of

FFLAGS = 1
FRM = 2
FCSR = 3


def control_content(machine, which):
    """What fflags, frm or fcsr holds."""
    if which == FFLAGS:
        return machine.fflags
    if which == FRM:
        return machine.frm
    return machine.fflags + 32 * machine.frm


def put_control(machine, which, number):
    """The low bits of the number, as many as it keeps, go to fflags, frm or fcsr."""
    if which == FFLAGS:
        machine.fflags = number & 31
    elif which == FRM:
        machine.frm = number & 7
    else:
        machine.fflags = number & 31
        machine.frm = (number >> 5) & 7


def written(form, old, number):
    """What is written by the forms 1, 2 and 3, of the old content and the operand."""
    if form == 1:
        return number
    if form == 2:
        return old | number
    return old & ~number


def exchange_control(machine, word):
    """Opcode 73, but for the stop word."""
    f3 = f3_of(word)
    which = control_of(word)
    require(f3 not in (0, 4) and which in (FFLAGS, FRM, FCSR), word)
    place = rs1_of(word)
    number = machine.x[place] if f3 < 4 else place
    old = control_content(machine, which)
    machine.put_x(rd_of(word), old)
    if f3 % 4 == 1 or place != 0:
        put_control(machine, which, written(f3 % 4, old, number))
