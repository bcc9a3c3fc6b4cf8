"""The calls of the machine: what each does to it and answers, where it is not refused."""

from floathalf.running import run

NEW = 6
PROGRAM = 7
RUN = 8
GET = 9
SET = 10
READ = 11
WRITE = 12

FRM = 64
FFLAGS = 65
PC = 66
CAUSE = 67


def content_of(machine, what):
    """What stands in the place of that number."""
    if what < 32:
        return machine.x[what]
    if what < FRM:
        return machine.f[what - 32]
    if what == FRM:
        return machine.frm
    if what == FFLAGS:
        return machine.fflags
    if what == PC:
        return machine.pc
    if what == CAUSE:
        return machine.cause
    return machine.value


def put_content(machine, what, v):
    """v goes to the place of that number, or as many low bits as it keeps."""
    if what < 32:
        machine.put_x(what, v)
    elif what < FRM:
        machine.f[what - 32] = v
    elif what == FRM:
        machine.frm = v & 7
    elif what == FFLAGS:
        machine.fflags = v & 31
    else:
        machine.pc = v


def put_program(machine, words):
    """These words are the program, and it is at its beginning."""
    machine.words = words
    machine.pc = 0


def put_bytes(machine, at, row):
    """These bytes stand in the memory from at on."""
    for place, byte in enumerate(row):
        machine.memory[at + place] = byte


def answer_of_machine(machine, which, numbers):
    """What the words tell of a call of the machine."""
    if which == RUN:
        return list(run(machine, numbers[0]))
    if which == GET:
        return [content_of(machine, numbers[0])]
    if which == READ:
        at, n = numbers
        return [n] + machine.memory[at:at + n]
    if which == NEW:
        machine.begin()
    elif which == PROGRAM:
        put_program(machine, numbers[1:])
    elif which == SET:
        put_content(machine, numbers[0], numbers[1])
    elif which == WRITE:
        put_bytes(machine, numbers[0], numbers[2:])
    return [0]
