"""Steps and runs."""

from floathalf.control_words import exchange_control
from floathalf.faults import NOT_LEGAL, PC_OUTSIDE, Fault
from floathalf.float_words import execute_float, execute_fused
from floathalf.memory_words import load_float, store_float
from floathalf.whole_words import add_offset, add_or_subtract, branch, jump, put_upper
from floathalf.words import opcode_of

STOP_WORD = 0x00000073

# How a run ends.
BY_NUMBER = 0
AT_END = 1
BY_STOP_WORD = 2
BY_FAULT = 3


def execute(machine, word):
    """What a word does that does not choose the next pc, and is not the stop word."""
    opcode = opcode_of(word)
    if opcode == 0x53:
        execute_float(machine, word)
    elif opcode in (0x43, 0x47, 0x4B, 0x4F):
        execute_fused(machine, word)
    elif opcode == 0x07:
        load_float(machine, word)
    elif opcode == 0x27:
        store_float(machine, word)
    elif opcode == 0x13:
        add_offset(machine, word)
    elif opcode == 0x33:
        add_or_subtract(machine, word)
    elif opcode == 0x37:
        put_upper(machine, word)
    elif opcode == 0x73:
        exchange_control(machine, word)
    else:
        raise Fault(NOT_LEGAL, word)


def is_at_end(machine):
    """Whether pc stands just behind the program."""
    return machine.pc == 4 * len(machine.words)


def next_word(machine):
    """The word that pc stands at; the program's end is not reached."""
    if machine.pc > 4 * len(machine.words) or machine.pc % 4 != 0:
        raise Fault(PC_OUTSIDE, machine.pc)
    return machine.words[machine.pc // 4]


def step(machine):
    """Executes the next word, and gives it back."""
    word = next_word(machine)
    opcode = opcode_of(word)
    if opcode == 0x63:
        branch(machine, word)
    elif opcode == 0x6F:
        jump(machine, word)
    else:
        if word != STOP_WORD:
            execute(machine, word)
        machine.pc = machine.pc + 4
    return word


def run(machine, steps):
    """Makes at most so many steps: how the run ended, and how many steps were made."""
    for made in range(steps):
        if is_at_end(machine):
            return (AT_END, made)
        try:
            word = step(machine)
        except Fault as e:
            machine.cause = e.cause
            machine.value = e.value
            return (BY_FAULT, made)
        if word == STOP_WORD:
            return (BY_STOP_WORD, made + 1)
    return (BY_NUMBER, steps)
