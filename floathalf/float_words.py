"""The floating-point instructions, but for loads and stores."""

from floathalf.bitwise import class_of, compare
from floathalf.conversions import convert, from_whole, to_whole
from floathalf.faults import NOT_LEGAL, Fault, require
from floathalf.formats import WIDTHS, own_bits
from floathalf.operations import operate
from floathalf.wholes import signed
from floathalf.words import f3_of, f5_of, fm_of, opcode_of, rd_of, rs1_of, rs2_of, rs3_of

# An operation that rounds nothing is handed this mode.
ANY_MODE = 0

# By f3: the kind of comparison.
KINDS = {0: 2, 1: 1, 2: 0, 4: 4, 5: 3}


def form_of(word):
    """The format that the word names."""
    form = fm_of(word)
    require(form != 3, word)
    return form


def mode_of(machine, word):
    """The mode by which the word rounds."""
    mode = f3_of(word)
    if mode == 7:
        mode = machine.frm
    require(mode <= 4, word)
    return mode


def put_float(machine, word, answer):
    """Of bits and flags: those go to f rd, these are raised."""
    bits, flags = answer
    machine.put_f(form_of(word), rd_of(word), bits)
    machine.raise_flags(flags)


def put_whole(machine, word, answer):
    """Of a whole number and flags: that goes to rd, these are raised."""
    number, flags = answer
    machine.put_x(rd_of(word), number)
    machine.raise_flags(flags)


def execute_fused(machine, word):
    """Opcodes 43, 47, 4B and 4F: the operations 5 to 8."""
    form = form_of(word)
    mode = mode_of(machine, word)
    operands = [machine.operand(form, place) for place in (rs1_of(word), rs2_of(word), rs3_of(word))]
    put_float(machine, word, operate(form, 5 + (opcode_of(word) - 0x43) // 4, mode, operands))


def execute_operation(machine, word, operation, mode):
    """An operation of at most two operands; one that looks at its first alone is handed two as well."""
    form = form_of(word)
    operands = [machine.operand(form, rs1_of(word)), machine.operand(form, rs2_of(word)), 0]
    put_float(machine, word, operate(form, operation, mode, operands))


def execute_chosen(machine, word, operations):
    """The one of these operations that f3 chooses."""
    require(f3_of(word) < len(operations), word)
    execute_operation(machine, word, operations[f3_of(word)], ANY_MODE)


def execute_root(machine, word):
    """f5 0B."""
    require(rs2_of(word) == 0, word)
    execute_operation(machine, word, 4, mode_of(machine, word))


def execute_conversion(machine, word):
    """f5 08: from another format, or to a whole number within the format."""
    form = form_of(word)
    mode = mode_of(machine, word)
    source = rs2_of(word)
    if source in (4, 5):
        execute_operation(machine, word, 10 + source, mode)
    else:
        require(source <= 2 and source != form, word)
        put_float(machine, word, convert(source, form, mode, machine.operand(source, rs1_of(word))))


def execute_comparison(machine, word):
    """f5 14."""
    form = form_of(word)
    require(f3_of(word) in KINDS, word)
    a = machine.operand(form, rs1_of(word))
    b = machine.operand(form, rs2_of(word))
    put_whole(machine, word, compare(form, KINDS[f3_of(word)], a, b))


def sort_of(word):
    """The sort of whole numbers that rs2's bits name: of 32 or 64 bits."""
    require(rs2_of(word) <= 3, word)
    return 4 + rs2_of(word)


def execute_to_whole(machine, word):
    """f5 18."""
    form = form_of(word)
    sort = sort_of(word)
    number, flags = to_whole(form, sort, mode_of(machine, word), machine.operand(form, rs1_of(word)))
    put_whole(machine, word, (signed(number, 32) if sort <= 5 else number, flags))


def execute_from_whole(machine, word):
    """f5 1A."""
    form = form_of(word)
    mode = mode_of(machine, word)
    put_float(machine, word, from_whole(form, sort_of(word), mode, machine.x[rs1_of(word)]))


def execute_out(machine, word):
    """f5 1C: the bits themselves, whatever the box, or the class goes to rd."""
    form = form_of(word)
    require(rs2_of(word) == 0 and f3_of(word) <= 1, word)
    if f3_of(word) == 0:
        number = signed(machine.f[rs1_of(word)], WIDTHS[form])
    else:
        number = class_of(form, machine.operand(form, rs1_of(word)))
    put_whole(machine, word, (number, 0))


def execute_in(machine, word):
    """f5 1E: the bits of rs1 go to f rd."""
    form = form_of(word)
    require(rs2_of(word) == 0 and f3_of(word) == 0, word)
    put_float(machine, word, (own_bits(form, machine.x[rs1_of(word)]), 0))


def execute_to_f(machine, word):
    """Opcode 53, where the result goes to f rd."""
    f5 = f5_of(word)
    if f5 <= 3:
        execute_operation(machine, word, f5, mode_of(machine, word))
    elif f5 == 0x04:
        execute_chosen(machine, word, (11, 12, 13))
    elif f5 == 0x05:
        execute_chosen(machine, word, (9, 10))
    elif f5 == 0x08:
        execute_conversion(machine, word)
    elif f5 == 0x0B:
        execute_root(machine, word)
    elif f5 == 0x1A:
        execute_from_whole(machine, word)
    elif f5 == 0x1E:
        execute_in(machine, word)
    else:
        raise Fault(NOT_LEGAL, word)


def execute_float(machine, word):
    """Opcode 53."""
    f5 = f5_of(word)
    if f5 == 0x14:
        execute_comparison(machine, word)
    elif f5 == 0x18:
        execute_to_whole(machine, word)
    elif f5 == 0x1C:
        execute_out(machine, word)
    else:
        execute_to_f(machine, word)
