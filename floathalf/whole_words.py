"""The whole-number instructions, and those that go on at another pc."""

from floathalf.faults import TARGET_BESIDE_WORDS, Fault, require
from floathalf.wholes import signed, wrapped
from floathalf.words import f3_of, f7_of, offset_b, offset_i, offset_j, rd_of, rs1_of, rs2_of


def put_upper(machine, word):
    """Opcode 37."""
    machine.put_x(rd_of(word), signed(word & 0xFFFFF000, 32))


def add_offset(machine, word):
    """Opcode 13."""
    require(f3_of(word) == 0, word)
    machine.put_x(rd_of(word), machine.x[rs1_of(word)] + offset_i(word))


def add_or_subtract(machine, word):
    """Opcode 33."""
    require(f3_of(word) == 0 and f7_of(word) in (0x00, 0x20), word)
    first = machine.x[rs1_of(word)]
    second = machine.x[rs2_of(word)]
    machine.put_x(rd_of(word), first + second if f7_of(word) == 0 else first - second)


def target_of(machine, offset):
    """The pc that is gone to; where no word can begin there, nothing is done."""
    target = wrapped(machine.pc + offset)
    if target % 4 != 0:
        raise Fault(TARGET_BESIDE_WORDS, target)
    return target


def is_taken(machine, word):
    """Whether a branch goes to its target."""
    f3 = f3_of(word)
    require(f3 in (0, 1, 4, 5), word)
    first = machine.x[rs1_of(word)]
    second = machine.x[rs2_of(word)]
    if f3 <= 1:
        return (first == second) == (f3 == 0)
    return (signed(first, 64) < signed(second, 64)) == (f3 == 4)


def branch(machine, word):
    """Opcode 63."""
    if is_taken(machine, word):
        machine.pc = target_of(machine, offset_b(word))
    else:
        machine.pc = machine.pc + 4


def jump(machine, word):
    """Opcode 6F."""
    target = target_of(machine, offset_j(word))
    machine.put_x(rd_of(word), machine.pc + 4)
    machine.pc = target
