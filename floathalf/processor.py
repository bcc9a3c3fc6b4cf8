"""The calls: answers takes them in one list, and gives their answers in one list."""

from floathalf.bitwise import class_of, compare
from floathalf.conversions import convert, from_whole, to_whole
from floathalf.machine import MEMORY_SIZE, Machine
from floathalf.machine_calls import PROGRAM, READ, WRITE, answer_of_machine
from floathalf.operations import operate

OP = 0
COMPARE = 1
CLASS_OF = 2
CONVERT = 3
WHOLE = 4
FLOATING = 5

# By the call's number: how many whole numbers stand behind it, a row's count among them.
COUNTS = (6, 4, 2, 4, 4, 4, 0, 1, 1, 1, 2, 2, 2)

# By the call's number: the greatest that its first numbers may be; those behind may be any.
# Of program, the first is how many words the row has.
LIMITS = ((2, 15, 4), (2, 4), (2,), (2, 2, 4), (2, 7, 4), (2, 7, 4), (), (1024,), (1000,), (68,), (66,), (), ())


def call_size(calls, at):
    """How many numbers the call that begins at that place has, its own among them."""
    which = calls[at]
    size = 1 + COUNTS[which]
    if which == PROGRAM or which == WRITE:
        return size + calls[at + size - 1]
    return size


def is_within_limits(which, numbers):
    """Whether the numbers of a call are as the words tell."""
    for limit, number in zip(LIMITS[which], numbers):
        if number > limit:
            return False
    if which == READ or which == WRITE:
        return numbers[0] + numbers[1] <= MEMORY_SIZE
    return True


def answer_of_numbers(which, numbers):
    """What the words tell of a call that answers numbers alone."""
    if which == OP:
        return list(operate(numbers[0], numbers[1], numbers[2], numbers[3:6]))
    if which == COMPARE:
        return list(compare(numbers[0], numbers[1], numbers[2], numbers[3]))
    if which == CLASS_OF:
        return [class_of(numbers[0], numbers[1])]
    if which == CONVERT:
        return list(convert(numbers[0], numbers[1], numbers[2], numbers[3]))
    if which == WHOLE:
        return list(to_whole(numbers[0], numbers[1], numbers[2], numbers[3]))
    return list(from_whole(numbers[0], numbers[1], numbers[2], numbers[3]))


def answer_of_call(machine, which, numbers):
    """All that one call answers; a refusal is -1 alone."""
    if not is_within_limits(which, numbers):
        return [-1]
    if which <= FLOATING:
        return [0] + answer_of_numbers(which, numbers)
    return [0] + answer_of_machine(machine, which, numbers)


def answers(calls):
    """For each of the calls in order: how many numbers it answers, then these."""
    machine = Machine()
    given = []
    at = 0
    while at < len(calls):
        size = call_size(calls, at)
        answer = answer_of_call(machine, calls[at], calls[at + 1:at + size])
        given.append(len(answer))
        given.extend(answer)
        at = at + size
    return given
