"""How the tests ask the program, and what the answers must be by exact arithmetic.

The part of exact arithmetic draws nothing from the program: it goes from the words of the
document, with fractions, so that the two can be held against each other.
"""

import random
import unittest
from fractions import Fraction
from math import isqrt

from floathalf.processor import answers

SINGLE, DOUBLE, HALF = FORMS = (0, 1, 2)
MODES = (0, 1, 2, 3, 4)
NX, UF, OF, DZ, NV = 1, 2, 4, 8, 16
REFUSED = [-1]

WIDTH = (32, 64, 16)
EXPONENT = (8, 11, 5)
FRACTION = (23, 52, 10)


class Named:
    """The numbers that the tests name, in one format, written out bit by bit."""

    def __init__(self, bits):
        (self.sign, self.least, self.greatest_subnormal, self.least_normal, self.half, self.one,
         self.above_one, self.two, self.three, self.greatest, self.infinity, self.signaling,
         self.canonical, self.quiet) = bits

    def minus(self, a):
        return a ^ self.sign

    def specials(self):
        """The numbers at which something changes, with both signs."""
        sizes = [0, self.least, self.greatest_subnormal, self.least_normal, self.half, self.one,
                 self.above_one, self.three, self.greatest, self.infinity, self.signaling, self.quiet]
        return [size | sign for size in sizes for sign in (0, self.sign)]


NAMED = (
    Named((0x80000000, 0x00000001, 0x007FFFFF, 0x00800000, 0x3F000000, 0x3F800000,
           0x3F800001, 0x40000000, 0x40400000, 0x7F7FFFFF, 0x7F800000, 0x7F800001,
           0x7FC00000, 0x7FC12345)),
    Named((0x8000000000000000, 0x0000000000000001, 0x000FFFFFFFFFFFFF, 0x0010000000000000,
           0x3FE0000000000000, 0x3FF0000000000000, 0x3FF0000000000001, 0x4000000000000000,
           0x4008000000000000, 0x7FEFFFFFFFFFFFFF, 0x7FF0000000000000, 0x7FF0000000000001,
           0x7FF8000000000000, 0x7FF8123456789ABC)),
    Named((0x8000, 0x0001, 0x03FF, 0x0400, 0x3800, 0x3C00, 0x3C01, 0x4000, 0x4200, 0x7BFF,
           0x7C00, 0x7C01, 0x7E00, 0x7E55)),
)


# Asking the program.

def split(told):
    """The answers of the calls, one list each."""
    found = []
    at = 0
    while at < len(told):
        count = told[at]
        assert count > 0 and at + 1 + count <= len(told), told
        found.append(told[at + 1:at + 1 + count])
        at += 1 + count
    return found


def ask(calls):
    """The answer of each call; the calls are handed in as lists of 400."""
    found = []
    for start in range(0, len(calls), 400):
        part = calls[start:start + 400]
        told = split(answers([number for call in part for number in call]))
        assert len(told) == len(part), (len(told), len(part))
        found.extend(told)
    return found


def ask_one(call):
    return ask([call])[0]


def result(call):
    """Of a call that answers bits or a number, and flags: these two."""
    answer = ask_one(call)
    assert len(answer) == 3 and answer[0] == 0, (call, answer)
    return (answer[1], answer[2])


def op(form, operation, mode, a, b=0, c=0):
    return result([0, form, operation, mode, a, b, c])


def compare(form, kind, a, b):
    return result([1, form, kind, a, b])


def class_of(form, a):
    answer = ask_one([2, form, a])
    assert len(answer) == 2 and answer[0] == 0, answer
    return answer[1]


def convert(source, goal, mode, a):
    return result([3, source, goal, mode, a])


def whole(form, sort, mode, a):
    return result([4, form, sort, mode, a])


def floating(form, sort, mode, v):
    return result([5, form, sort, mode, v])


# Exact arithmetic.

class Number:
    """What bits stand for in a format."""

    def __init__(self, form, a):
        width, exponent_bits, fraction_bits = WIDTH[form], EXPONENT[form], FRACTION[form]
        self.bits = a % 2**width
        text = format(self.bits, "0%db" % width)
        self.sign = int(text[0])
        field = int(text[1:1 + exponent_bits], 2)
        fraction = int(text[1 + exponent_bits:], 2)
        bias = 2**(exponent_bits - 1) - 1
        full = field == 2**exponent_bits - 1
        self.is_infinite = full and fraction == 0
        self.is_nan = full and fraction != 0
        self.is_signaling = self.is_nan and text[1 + exponent_bits] == "0"
        self.is_subnormal = field == 0 and fraction != 0
        self.value = None
        if not full:
            shown = fraction if field == 0 else 2**fraction_bits + fraction
            power = max(field, 1) - bias - fraction_bits
            self.value = (-1)**self.sign * shown * Fraction(2)**power
        self.is_zero = self.value == 0


def signed_bits(form, sign, below):
    return sign * 2**(WIDTH[form] - 1) + below


def infinity(form, sign):
    return signed_bits(form, sign, (2**EXPONENT[form] - 1) * 2**FRACTION[form])


def canonical(form):
    return infinity(form, 0) + 2**(FRACTION[form] - 1)


class Size:
    """A real number of at least 0: a fraction, or the square root of one."""

    def __init__(self, fraction, rooted=False):
        self.fraction = fraction
        self.rooted = rooted

    def less_than(self, other):
        return self.fraction < (other * other if self.rooted else other)

    def equals(self, other):
        return self.fraction == (other * other if self.rooted else other)

    def floor(self, unit):
        """The greatest multiple of unit that isn't above it."""
        if self.rooted:
            return isqrt((self.fraction / unit**2).__floor__()) * unit
        return (self.fraction / unit).__floor__() * unit

    def exponent(self):
        shown = self.fraction.numerator.bit_length() - self.fraction.denominator.bit_length()
        e = shown // 2 if self.rooted else shown
        while self.less_than(Fraction(2)**e):
            e -= 1
        while not self.less_than(Fraction(2)**(e + 1)):
            e += 1
        return e


def neighbour(size, sign, mode, unit):
    """The neighbour of the size on the grid of the multiples of unit."""
    below = size.floor(unit)
    if size.equals(below):
        return below
    above = below + unit
    middle = below + unit / 2
    if mode == 0:
        if size.equals(middle):
            return below if below / unit % 2 == 0 else above
        return below if size.less_than(middle) else above
    if mode == 4:
        return below if size.less_than(middle) else above
    if mode == 1:
        return below
    return above if (mode == 3) == (sign == 0) else below


def encode(form, sign, size):
    """The bits of a number that the format has."""
    fraction_bits = FRACTION[form]
    bias = 2**(EXPONENT[form] - 1) - 1
    if size < Fraction(2)**(1 - bias):
        below = size / Fraction(2)**(1 - bias - fraction_bits)
    else:
        e = Size(size).exponent()
        shown = size / Fraction(2)**(e - fraction_bits) - 2**fraction_bits
        below = (e + bias) * 2**fraction_bits + shown
    assert below == int(below)
    return signed_bits(form, sign, int(below))


def round_size(form, mode, sign, size):
    """Bits and flags of the real number other than 0 of that sign and size."""
    fraction_bits = FRACTION[form]
    bias = 2**(EXPONENT[form] - 1) - 1
    e = size.exponent()
    found = neighbour(size, sign, mode, Fraction(2)**(max(e, 1 - bias) - fraction_bits))
    if found >= Fraction(2)**(bias + 1):
        finite = mode == 1 or (mode == 2 and sign == 0) or (mode == 3 and sign == 1)
        return (infinity(form, sign) - (1 if finite else 0), OF | NX)
    flags = 0
    if not size.equals(found):
        flags = NX
        if neighbour(size, sign, mode, Fraction(2)**(e - fraction_bits)) < Fraction(2)**(1 - bias):
            flags = NX | UF
    return (encode(form, sign, found), flags)


def round_value(form, mode, value):
    return round_size(form, mode, 1 if value < 0 else 0, Size(abs(value)))


def invalid(form):
    return (canonical(form), NV)


def exact_sum(form, mode, first, second):
    """Of two pairs of a sign and a value, the value None for an infinity."""
    (sign, x), (other_sign, y) = first, second
    if x is None and y is None and sign != other_sign:
        return invalid(form)
    if x is None or y is None:
        return (infinity(form, sign if x is None else other_sign), 0)
    if x + y != 0:
        return round_value(form, mode, x + y)
    if x == 0 and sign == other_sign:
        return (signed_bits(form, sign, 0), 0)
    return (signed_bits(form, 1 if mode == 2 else 0, 0), 0)


def turned(pair, turn):
    sign, x = pair
    return (1 - sign, None if x is None else -x) if turn else pair


def exact_product(x, y):
    """The sign and the value of a product that has one; the value None for an infinity."""
    sign = (x.sign + y.sign) % 2
    return (sign, None if x.is_infinite or y.is_infinite else x.value * y.value)


def has_no_product(x, y):
    return (x.is_infinite and y.is_zero) or (x.is_zero and y.is_infinite)


def exact_quotient(form, mode, x, y):
    sign = (x.sign + y.sign) % 2
    if (x.is_infinite and y.is_infinite) or (x.is_zero and y.is_zero):
        return invalid(form)
    if x.is_infinite:
        return (infinity(form, sign), 0)
    if y.is_zero:
        return (infinity(form, sign), DZ)
    if y.is_infinite or x.is_zero:
        return (signed_bits(form, sign, 0), 0)
    return round_value(form, mode, x.value / y.value)


def exact_root(form, mode, x):
    if x.is_zero or (x.is_infinite and x.sign == 0):
        return (x.bits, 0)
    if x.sign == 1:
        return invalid(form)
    return round_size(form, mode, 0, Size(x.value, rooted=True))


def exact_within(form, operation, mode, x):
    if x.is_infinite or x.is_zero:
        return (x.bits, 0)
    found = neighbour(Size(abs(x.value)), x.sign, mode, Fraction(1))
    flags = NX if operation == 15 and found != abs(x.value) else 0
    return (encode(form, x.sign, found), flags)


def exact_choice(form, operation, x, y):
    flags = NV if x.is_signaling or y.is_signaling else 0
    if x.is_nan or y.is_nan:
        if x.is_nan and y.is_nan:
            return (canonical(form), flags)
        return ((y if x.is_nan else x).bits, flags)

    def rank(number):
        value = number.value
        if number.is_infinite:
            value = Fraction(2)**3000 * (-1)**number.sign
        return (value, -number.sign)

    pick = min if operation == 9 else max
    return (pick((x, y), key=rank).bits, flags)


def exact_sign(form, operation, x, y):
    sign = {11: y.sign, 12: 1 - y.sign, 13: (x.sign + y.sign) % 2}[operation]
    return (signed_bits(form, sign, x.bits % 2**(WIDTH[form] - 1)), 0)


def looked_at(operation, numbers):
    if operation in (4, 14, 15):
        return numbers[:1]
    return numbers if 5 <= operation <= 8 else numbers[:2]


def exact_op(form, operation, mode, a, b, c):
    """The bits and flags that op must answer."""
    x, y, z = numbers = [Number(form, bits) for bits in (a, b, c)]
    if operation in (9, 10):
        return exact_choice(form, operation, x, y)
    if operation in (11, 12, 13):
        return exact_sign(form, operation, x, y)
    fused = 5 <= operation <= 8
    seen = looked_at(operation, numbers)
    if any(number.is_nan for number in seen):
        bad = any(number.is_signaling for number in seen) or (fused and has_no_product(x, y))
        return (canonical(form), NV if bad else 0)
    if operation in (0, 1):
        return exact_sum(form, mode, (x.sign, x.value), turned((y.sign, y.value), operation == 1))
    if operation == 3:
        return exact_quotient(form, mode, x, y)
    if operation == 4:
        return exact_root(form, mode, x)
    if operation in (14, 15):
        return exact_within(form, operation, mode, x)
    if has_no_product(x, y):
        return invalid(form)
    product = exact_product(x, y)
    if operation == 2:
        # A zero of the product's own sign added changes nothing, its sign neither.
        return exact_sum(form, mode, product, (product[0], Fraction(0)))
    return exact_sum(form, mode, turned(product, operation in (7, 8)),
                     turned((z.sign, z.value), operation in (6, 8)))


def exact_compare(form, kind, a, b):
    x, y = Number(form, a), Number(form, b)
    if x.is_nan or y.is_nan:
        return (0, NV if kind in (1, 2) or x.is_signaling or y.is_signaling else 0)
    x, y = [Fraction(2)**3000 * (-1)**n.sign if n.is_infinite else n.value for n in (x, y)]
    so = {0: x == y, 1: x < y, 2: x <= y, 3: x < y, 4: x <= y}[kind]
    return (int(so), 0)


def exact_convert(source, goal, mode, a):
    x = Number(source, a)
    if x.is_nan:
        return (canonical(goal), NV if x.is_signaling else 0)
    if x.is_infinite:
        return (infinity(goal, x.sign), 0)
    if x.is_zero:
        return (signed_bits(goal, x.sign, 0), 0)
    return round_value(goal, mode, x.value)


def sort_range(sort):
    """The least and the greatest number of a sort of whole numbers."""
    return ((-2**7, 2**7 - 1), (0, 2**8 - 1), (-2**15, 2**15 - 1), (0, 2**16 - 1),
            (-2**31, 2**31 - 1), (0, 2**32 - 1), (-2**63, 2**63 - 1), (0, 2**64 - 1))[sort]


def exact_whole(form, sort, mode, a):
    x = Number(form, a)
    least, greatest = sort_range(sort)
    if x.is_nan or x.is_infinite:
        return ((least if x.is_infinite and x.sign else greatest) % 2**64, NV)
    found = int(neighbour(Size(abs(x.value)), x.sign, mode, Fraction(1))) * (-1)**x.sign
    if found < least:
        return (least % 2**64, NV)
    if found > greatest:
        return (greatest % 2**64, NV)
    return (found % 2**64, NX if found != x.value else 0)


def exact_floating(form, sort, mode, v):
    least, greatest = sort_range(sort)
    count = greatest - least + 1
    number = v % count
    if number > greatest:
        number -= count
    return (0, 0) if number == 0 else round_value(form, mode, Fraction(number))


EXACT = {0: exact_op, 1: exact_compare, 3: exact_convert, 4: exact_whole, 5: exact_floating}


def differences(calls):
    """The first few of these calls whose answer is not the exact one: call, answer, exact answer."""
    found = []
    for call, answer in zip(calls, ask(calls)):
        exact = [0] + list(EXACT[call[0]](*call[1:]))
        if answer != exact:
            found.append((call, answer, exact))
        if len(found) == 3:
            break
    return found


# Operands.

class Drawn:
    """Operands, drawn anew but the same in each run of the tests."""

    def __init__(self, seed):
        self.draw = random.Random(seed)

    def above(self, form):
        """Now and then, bits above the format's width."""
        room = 64 - WIDTH[form]
        return self.draw.getrandbits(room) << WIDTH[form] if room and self.draw.random() < 0.3 else 0

    def fraction(self, form):
        """Fractions with long runs of equal bits come often: ties and carries come of them."""
        places = FRACTION[form]
        bits = self.draw.getrandbits(places)
        choice = self.draw.randrange(4)
        if choice == 0:
            bits = bits >> self.draw.randrange(places + 1) << self.draw.randrange(places + 1)
        if choice == 1:
            bits = (1 << places) - 1 - (bits >> self.draw.randrange(places + 1))
        return bits % (1 << places)

    def exponent(self, form, near=None):
        greatest = (1 << EXPONENT[form]) - 1
        if near is not None and self.draw.random() < 0.7:
            return min(greatest, max(0, near + self.draw.randint(-FRACTION[form] - 3, FRACTION[form] + 3)))
        choice = self.draw.randrange(5)
        if choice == 0:
            return self.draw.randrange(4)
        if choice == 1:
            return greatest - self.draw.randrange(4)
        return self.draw.randrange(greatest + 1)

    def put(self, form, field):
        sign = self.draw.getrandbits(1)
        bits = (sign << EXPONENT[form] | field) << FRACTION[form] | self.fraction(form)
        return bits | self.above(form)

    def operand(self, form):
        if self.draw.random() < 0.1:
            return self.draw.choice(NAMED[form].specials()) | self.above(form)
        return self.put(form, self.exponent(form))

    def near(self, form, a):
        field = a >> FRACTION[form] & (1 << EXPONENT[form]) - 1
        return self.put(form, self.exponent(form, field))

    def third(self, form, a, b):
        """A number that is often about as great as the product of a and b."""
        bias = (1 << EXPONENT[form] - 1) - 1
        mask = (1 << EXPONENT[form]) - 1
        field = (a >> FRACTION[form] & mask) + (b >> FRACTION[form] & mask) - bias
        return self.put(form, self.exponent(form, field))

    def tiny_pair(self, form):
        """Two numbers whose product is about the least normal number or below it."""
        a = self.put(form, self.draw.randrange(1, (1 << EXPONENT[form] - 1)))
        field = a >> FRACTION[form] & (1 << EXPONENT[form]) - 1
        bias = (1 << EXPONENT[form] - 1) - 1
        other = bias + 1 - field + self.draw.randint(-FRACTION[form] // 2, 1)
        return (a, self.put(form, min(max(other, 0), 2 * bias)))


# Instructions' words.

STOP_WORD = 0x00000073


def word_r(opcode, rd, f3, rs1, rs2, f7):
    return f7 << 25 | rs2 << 20 | rs1 << 15 | f3 << 12 | rd << 7 | opcode


def word_i(opcode, rd, f3, rs1, offset):
    return offset % 2**12 << 20 | rs1 << 15 | f3 << 12 | rd << 7 | opcode


def word_s(opcode, f3, rs1, rs2, offset):
    bits = offset % 2**12
    return word_r(opcode, bits % 32, f3, rs1, rs2, bits // 32)


def word_u(rd, upper):
    return upper << 12 | rd << 7 | 0x37


def word_b(f3, rs1, rs2, offset):
    """A branch; offset is even, from -4096 to 4094."""
    bits = format(offset % 2**13, "013b")
    return int(bits[0] + bits[2:8] + format(rs2 << 8 | rs1 << 3 | f3, "013b") + bits[8:12] + bits[1] + "1100011", 2)


def word_j(rd, offset):
    """A jump; offset is even, from -2^20 to 2^20 - 2."""
    bits = format(offset % 2**21, "021b")
    return int(bits[0] + bits[10:20] + bits[9] + bits[1:9] + format(rd, "05b") + "1101111", 2)


def word_fused(operation, fm, rd, f3, rs1, rs2, rs3):
    return word_r(0x43 + 4 * (operation - 5), rd, f3, rs1, rs2, rs3 << 2 | fm)


def word_float(f5, fm, rd, f3, rs1, rs2):
    return word_r(0x53, rd, f3, rs1, rs2, f5 << 2 | fm)


def add_one(rd):
    return word_i(0x13, rd, 0, rd, 1)


# The machine. A state is the list of what the places hold, 0 to 68 as get tells them, and behind
# them the bytes of the memory.

FRM, FFLAGS, PC, CAUSE, VALUE, BYTES = 64, 65, 66, 67, 68, 69
NO_CAUSE = 2**64 - 1
BY_NUMBER, AT_END, BY_STOP_WORD, BY_FAULT = 0, 1, 2, 3
BOX = (2**64 - 2**32, 0, 2**64 - 2**16)


def f(number):
    """The place of an f register."""
    return 32 + number


def line(calls):
    """The answers of these calls on one machine."""
    numbers = [number for call in calls for number in call]
    assert len(calls) <= 400 and len(numbers) <= 16000, (len(calls), len(numbers))
    told = split(answers(numbers))
    assert len(told) == len(calls), (len(told), len(calls))
    return told


def program_call(words):
    return [7, len(words)] + list(words)


def write_call(at, row):
    return [12, at, len(row)] + list(row)


def set_calls(held):
    return [[10, place, v] for place, v in held.items()]


LOOK = [[9, place] for place in range(BYTES)] + [[11, 0, 4096]]


def state_of(told):
    """The state that the answers to LOOK tell."""
    assert all(answer[0] == 0 and len(answer) == 2 for answer in told[:-1]), told
    assert told[-1][:2] == [0, 4096] and len(told[-1]) == 4098
    return [answer[1] for answer in told[:-1]] + told[-1][2:]


def states(parts):
    """The state behind each part of one line of calls, and all answers to the parts' calls."""
    told = line([call for part in parts for call in part + LOOK])
    found, heard, at = [], [], 0
    for part in parts:
        heard.append(told[at:at + len(part)])
        at += len(part) + len(LOOK)
        found.append(state_of(told[at - len(LOOK):at]))
    return found, heard


# Contents that are all different, so that what goes to a wrong place is seen; f1 to f9 are not
# boxed, f10 to f19 are boxed singles, f20 to f31 boxed halves.
FILLED = {}
for number in range(1, 32):
    FILLED[number] = 0x0123456789ABCDEF * number % 2**64
for number in range(32):
    FILLED[f(number)] = 0x4010203040506070 + number
for number in range(10, 20):
    FILLED[f(number)] = 0xFFFFFFFF40102030 + number
for number in range(20, 32):
    FILLED[f(number)] = 0xFFFFFFFFFFFF4010 + number


def with_changes(state, changes):
    """The state with some places changed; x0 never is."""
    changed = list(state)
    for place, v in changes.items():
        if place != 0:
            changed[place] = v
    return changed


class MachineTest(unittest.TestCase):
    def same_state(self, state, expected):
        if state != expected:
            self.fail({place: (state[place], expected[place]) for place in range(len(expected))
                       if state[place] != expected[place]})

    def executed(self, words, held, steps, memory=()):
        """The states ahead of a run and behind it, and what the run answers."""
        ready = [program_call(words)] + set_calls({**FILLED, **held}) + list(memory)
        (before, after), heard = states([ready, [[8, steps]]])
        self.assertEqual(heard[0], [[0, 0]] * len(ready))
        return before, after, heard[1][0]

    def does(self, word, held, changes, at=0, memory=()):
        """The word is executed, as the word of number at, and changes this alone.

        pc goes on by 4 where changes tells no other.
        """
        before, after, told = self.executed([0] * at + [word], {PC: 4 * at, **held}, 1, memory)
        self.assertEqual(told, [0, BY_NUMBER, 1], hex(word))
        self.same_state(after, with_changes(before, {PC: 4 * at + 4, **changes}))

    def faults(self, word, held, cause, value, at=0, memory=()):
        """The word is a fault, which changes cause and value alone."""
        before, after, told = self.executed([0] * at + [word], {PC: 4 * at, **held}, 1, memory)
        self.assertEqual(told, [0, BY_FAULT, 0], hex(word))
        self.same_state(after, with_changes(before, {CAUSE: cause, VALUE: value}))

    def is_not_legal(self, word, held):
        self.faults(word, held, 2, word)
