"""The instructions that load f registers from the memory and store them there."""

from floathalf.faults import LOAD_OUTSIDE, STORE_OUTSIDE, Fault, require
from floathalf.machine import MEMORY_SIZE
from floathalf.wholes import wrapped
from floathalf.words import f3_of, offset_i, offset_s, rd_of, rs1_of, rs2_of

# By f3: the format, and how many bytes its numbers have.
WIDTHS_OF_F3 = {1: (2, 2), 2: (0, 4), 3: (1, 8)}


def form_and_size(word):
    """The format and the bytes of what is loaded or stored."""
    require(f3_of(word) in WIDTHS_OF_F3, word)
    return WIDTHS_OF_F3[f3_of(word)]


def address_of(machine, word, offset, size, cause):
    """The address of so many bytes; if not all are in the memory, the step ends for that cause."""
    address = wrapped(machine.x[rs1_of(word)] + offset)
    if address + size > MEMORY_SIZE:
        raise Fault(cause, address)
    return address


def load_float(machine, word):
    """Opcode 07."""
    form, size = form_and_size(word)
    address = address_of(machine, word, offset_i(word), size, LOAD_OUTSIDE)
    machine.put_f(form, rd_of(word), machine.load(address, size))


def store_float(machine, word):
    """Opcode 27."""
    size = form_and_size(word)[1]
    address = address_of(machine, word, offset_s(word), size, STORE_OUTSIDE)
    machine.store(address, size, machine.f[rs2_of(word)])
