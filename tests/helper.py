"""How the tests ask the program, and what the answers must be by exact arithmetic.

The second part draws nothing from the program: it goes from the words of the document,
with fractions, so that the two can be held against each other.
"""

from fractions import Fraction
from math import isqrt

from floathalf.processor import answers

SINGLE, DOUBLE, HALF = FORMS = (0, 1, 2)
MODES = (0, 1, 2, 3, 4)
NX, UF, OF, DZ, NV = 1, 2, 4, 8, 16
REFUSED = [-1]

WIDTH = (32, 64, 16)
EXPONENT = (8, 11, 5)
FRACTION = (23, 52, 10)


class Named:
    """The numbers that the tests name, in one format, written out bit by bit."""

    def __init__(self, bits):
        (self.sign, self.least, self.greatest_subnormal, self.least_normal, self.half, self.one,
         self.above_one, self.two, self.three, self.greatest, self.infinity, self.signaling,
         self.canonical, self.quiet) = bits

    def minus(self, a):
        return a ^ self.sign

    def specials(self):
        """The numbers at which something changes, with both signs."""
        sizes = [0, self.least, self.greatest_subnormal, self.least_normal, self.half, self.one,
                 self.above_one, self.three, self.greatest, self.infinity, self.signaling, self.quiet]
        return [size | sign for size in sizes for sign in (0, self.sign)]


NAMED = (
    Named((0x80000000, 0x00000001, 0x007FFFFF, 0x00800000, 0x3F000000, 0x3F800000,
           0x3F800001, 0x40000000, 0x40400000, 0x7F7FFFFF, 0x7F800000, 0x7F800001,
           0x7FC00000, 0x7FC12345)),
    Named((0x8000000000000000, 0x0000000000000001, 0x000FFFFFFFFFFFFF, 0x0010000000000000,
           0x3FE0000000000000, 0x3FF0000000000000, 0x3FF0000000000001, 0x4000000000000000,
           0x4008000000000000, 0x7FEFFFFFFFFFFFFF, 0x7FF0000000000000, 0x7FF0000000000001,
           0x7FF8000000000000, 0x7FF8123456789ABC)),
    Named((0x8000, 0x0001, 0x03FF, 0x0400, 0x3800, 0x3C00, 0x3C01, 0x4000, 0x4200, 0x7BFF,
           0x7C00, 0x7C01, 0x7E00, 0x7E55)),
)


# Asking the program.

def split(told):
    """The answers of the calls, one list each."""
    found = []
    at = 0
    while at < len(told):
        count = told[at]
        assert count > 0 and at + 1 + count <= len(told), told
        found.append(told[at + 1:at + 1 + count])
        at += 1 + count
    return found


def ask(calls):
    """The answer of each call; the calls are handed in as lists of 400."""
    found = []
    for start in range(0, len(calls), 400):
        part = calls[start:start + 400]
        told = split(answers([number for call in part for number in call]))
        assert len(told) == len(part), (len(told), len(part))
        found.extend(told)
    return found


def ask_one(call):
    return ask([call])[0]


def result(call):
    """Of a call that answers bits or a number, and flags: these two."""
    answer = ask_one(call)
    assert len(answer) == 3 and answer[0] == 0, (call, answer)
    return (answer[1], answer[2])


def op(form, operation, mode, a, b=0, c=0):
    return result([0, form, operation, mode, a, b, c])


def compare(form, kind, a, b):
    return result([1, form, kind, a, b])


def class_of(form, a):
    answer = ask_one([2, form, a])
    assert len(answer) == 2 and answer[0] == 0, answer
    return answer[1]


def convert(source, goal, mode, a):
    return result([3, source, goal, mode, a])


def whole(form, sort, mode, a):
    return result([4, form, sort, mode, a])


def floating(form, sort, mode, v):
    return result([5, form, sort, mode, v])


# Exact arithmetic.

class Number:
    """What bits stand for in a format."""

    def __init__(self, form, a):
        width, exponent_bits, fraction_bits = WIDTH[form], EXPONENT[form], FRACTION[form]
        self.bits = a % 2**width
        text = format(self.bits, "0%db" % width)
        self.sign = int(text[0])
        field = int(text[1:1 + exponent_bits], 2)
        fraction = int(text[1 + exponent_bits:], 2)
        bias = 2**(exponent_bits - 1) - 1
        full = field == 2**exponent_bits - 1
        self.is_infinite = full and fraction == 0
        self.is_nan = full and fraction != 0
        self.is_signaling = self.is_nan and text[1 + exponent_bits] == "0"
        self.is_subnormal = field == 0 and fraction != 0
        self.value = None
        if not full:
            shown = fraction if field == 0 else 2**fraction_bits + fraction
            power = max(field, 1) - bias - fraction_bits
            self.value = (-1)**self.sign * shown * Fraction(2)**power
        self.is_zero = self.value == 0


def signed_bits(form, sign, below):
    return sign * 2**(WIDTH[form] - 1) + below


def infinity(form, sign):
    return signed_bits(form, sign, (2**EXPONENT[form] - 1) * 2**FRACTION[form])


def canonical(form):
    return infinity(form, 0) + 2**(FRACTION[form] - 1)


class Size:
    """A real number of at least 0: a fraction, or the square root of one."""

    def __init__(self, fraction, rooted=False):
        self.fraction = fraction
        self.rooted = rooted

    def less_than(self, other):
        return self.fraction < (other * other if self.rooted else other)

    def equals(self, other):
        return self.fraction == (other * other if self.rooted else other)

    def floor(self, unit):
        """The greatest multiple of unit that isn't above it."""
        if self.rooted:
            return isqrt((self.fraction / unit**2).__floor__()) * unit
        return (self.fraction / unit).__floor__() * unit

    def exponent(self):
        shown = self.fraction.numerator.bit_length() - self.fraction.denominator.bit_length()
        e = shown // 2 if self.rooted else shown
        while self.less_than(Fraction(2)**e):
            e -= 1
        while not self.less_than(Fraction(2)**(e + 1)):
            e += 1
        return e


def neighbour(size, sign, mode, unit):
    """The neighbour of the size on the grid of the multiples of unit."""
    below = size.floor(unit)
    if size.equals(below):
        return below
    above = below + unit
    middle = below + unit / 2
    if mode == 0:
        if size.equals(middle):
            return below if below / unit % 2 == 0 else above
        return below if size.less_than(middle) else above
    if mode == 4:
        return below if size.less_than(middle) else above
    if mode == 1:
        return below
    return above if (mode == 3) == (sign == 0) else below


def encode(form, sign, size):
    """The bits of a number that the format has."""
    fraction_bits = FRACTION[form]
    bias = 2**(EXPONENT[form] - 1) - 1
    if size < Fraction(2)**(1 - bias):
        below = size / Fraction(2)**(1 - bias - fraction_bits)
    else:
        e = Size(size).exponent()
        shown = size / Fraction(2)**(e - fraction_bits) - 2**fraction_bits
        below = (e + bias) * 2**fraction_bits + shown
    assert below == int(below)
    return signed_bits(form, sign, int(below))


def round_size(form, mode, sign, size):
    """Bits and flags of the real number other than 0 of that sign and size."""
    fraction_bits = FRACTION[form]
    bias = 2**(EXPONENT[form] - 1) - 1
    e = size.exponent()
    found = neighbour(size, sign, mode, Fraction(2)**(max(e, 1 - bias) - fraction_bits))
    if found >= Fraction(2)**(bias + 1):
        finite = mode == 1 or (mode == 2 and sign == 0) or (mode == 3 and sign == 1)
        return (infinity(form, sign) - (1 if finite else 0), OF | NX)
    flags = 0
    if not size.equals(found):
        flags = NX
        if neighbour(size, sign, mode, Fraction(2)**(e - fraction_bits)) < Fraction(2)**(1 - bias):
            flags = NX | UF
    return (encode(form, sign, found), flags)


def round_value(form, mode, value):
    return round_size(form, mode, 1 if value < 0 else 0, Size(abs(value)))


def invalid(form):
    return (canonical(form), NV)


def exact_sum(form, mode, first, second):
    """Of two pairs of a sign and a value, the value None for an infinity."""
    (sign, x), (other_sign, y) = first, second
    if x is None and y is None and sign != other_sign:
        return invalid(form)
    if x is None or y is None:
        return (infinity(form, sign if x is None else other_sign), 0)
    if x + y != 0:
        return round_value(form, mode, x + y)
    if x == 0 and sign == other_sign:
        return (signed_bits(form, sign, 0), 0)
    return (signed_bits(form, 1 if mode == 2 else 0, 0), 0)


def turned(pair, turn):
    sign, x = pair
    return (1 - sign, None if x is None else -x) if turn else pair


def exact_product(x, y):
    """The sign and the value of a product that has one; the value None for an infinity."""
    sign = (x.sign + y.sign) % 2
    return (sign, None if x.is_infinite or y.is_infinite else x.value * y.value)


def has_no_product(x, y):
    return (x.is_infinite and y.is_zero) or (x.is_zero and y.is_infinite)


def exact_quotient(form, mode, x, y):
    sign = (x.sign + y.sign) % 2
    if (x.is_infinite and y.is_infinite) or (x.is_zero and y.is_zero):
        return invalid(form)
    if x.is_infinite:
        return (infinity(form, sign), 0)
    if y.is_zero:
        return (infinity(form, sign), DZ)
    if y.is_infinite or x.is_zero:
        return (signed_bits(form, sign, 0), 0)
    return round_value(form, mode, x.value / y.value)


def exact_root(form, mode, x):
    if x.is_zero or (x.is_infinite and x.sign == 0):
        return (x.bits, 0)
    if x.sign == 1:
        return invalid(form)
    return round_size(form, mode, 0, Size(x.value, rooted=True))


def exact_within(form, operation, mode, x):
    if x.is_infinite or x.is_zero:
        return (x.bits, 0)
    found = neighbour(Size(abs(x.value)), x.sign, mode, Fraction(1))
    flags = NX if operation == 15 and found != abs(x.value) else 0
    return (encode(form, x.sign, found), flags)


def exact_choice(form, operation, x, y):
    flags = NV if x.is_signaling or y.is_signaling else 0
    if x.is_nan or y.is_nan:
        if x.is_nan and y.is_nan:
            return (canonical(form), flags)
        return ((y if x.is_nan else x).bits, flags)

    def rank(number):
        value = number.value
        if number.is_infinite:
            value = Fraction(2)**3000 * (-1)**number.sign
        return (value, -number.sign)

    pick = min if operation == 9 else max
    return (pick((x, y), key=rank).bits, flags)


def exact_sign(form, operation, x, y):
    sign = {11: y.sign, 12: 1 - y.sign, 13: (x.sign + y.sign) % 2}[operation]
    return (signed_bits(form, sign, x.bits % 2**(WIDTH[form] - 1)), 0)


def looked_at(operation, numbers):
    if operation in (4, 14, 15):
        return numbers[:1]
    return numbers if 5 <= operation <= 8 else numbers[:2]


def exact_op(form, operation, mode, a, b, c):
    """The bits and flags that op must answer."""
    x, y, z = numbers = [Number(form, bits) for bits in (a, b, c)]
    if operation in (9, 10):
        return exact_choice(form, operation, x, y)
    if operation in (11, 12, 13):
        return exact_sign(form, operation, x, y)
    fused = 5 <= operation <= 8
    seen = looked_at(operation, numbers)
    if any(number.is_nan for number in seen):
        bad = any(number.is_signaling for number in seen) or (fused and has_no_product(x, y))
        return (canonical(form), NV if bad else 0)
    if operation in (0, 1):
        return exact_sum(form, mode, (x.sign, x.value), turned((y.sign, y.value), operation == 1))
    if operation == 3:
        return exact_quotient(form, mode, x, y)
    if operation == 4:
        return exact_root(form, mode, x)
    if operation in (14, 15):
        return exact_within(form, operation, mode, x)
    if has_no_product(x, y):
        return invalid(form)
    product = exact_product(x, y)
    if operation == 2:
        # A zero of the product's own sign added changes nothing, its sign neither.
        return exact_sum(form, mode, product, (product[0], Fraction(0)))
    return exact_sum(form, mode, turned(product, operation in (7, 8)),
                     turned((z.sign, z.value), operation in (6, 8)))


def exact_compare(form, kind, a, b):
    x, y = Number(form, a), Number(form, b)
    if x.is_nan or y.is_nan:
        return (0, NV if kind in (1, 2) or x.is_signaling or y.is_signaling else 0)
    x, y = [Fraction(2)**3000 * (-1)**n.sign if n.is_infinite else n.value for n in (x, y)]
    so = {0: x == y, 1: x < y, 2: x <= y, 3: x < y, 4: x <= y}[kind]
    return (int(so), 0)


def exact_convert(source, goal, mode, a):
    x = Number(source, a)
    if x.is_nan:
        return (canonical(goal), NV if x.is_signaling else 0)
    if x.is_infinite:
        return (infinity(goal, x.sign), 0)
    if x.is_zero:
        return (signed_bits(goal, x.sign, 0), 0)
    return round_value(goal, mode, x.value)


def sort_range(sort):
    """The least and the greatest number of a sort of whole numbers."""
    return ((-2**7, 2**7 - 1), (0, 2**8 - 1), (-2**15, 2**15 - 1), (0, 2**16 - 1),
            (-2**31, 2**31 - 1), (0, 2**32 - 1), (-2**63, 2**63 - 1), (0, 2**64 - 1))[sort]


def exact_whole(form, sort, mode, a):
    x = Number(form, a)
    least, greatest = sort_range(sort)
    if x.is_nan or x.is_infinite:
        return ((least if x.is_infinite and x.sign else greatest) % 2**64, NV)
    found = int(neighbour(Size(abs(x.value)), x.sign, mode, Fraction(1))) * (-1)**x.sign
    if found < least:
        return (least % 2**64, NV)
    if found > greatest:
        return (greatest % 2**64, NV)
    return (found % 2**64, NX if found != x.value else 0)


def exact_floating(form, sort, mode, v):
    least, greatest = sort_range(sort)
    count = greatest - least + 1
    number = v % count
    if number > greatest:
        number -= count
    return (0, 0) if number == 0 else round_value(form, mode, Fraction(number))


EXACT = {0: exact_op, 1: exact_compare, 3: exact_convert, 4: exact_whole, 5: exact_floating}


def differences(calls):
    """The first few of these calls whose answer is not the exact one: call, answer, exact answer."""
    found = []
    for call, answer in zip(calls, ask(calls)):
        exact = [0] + list(EXACT[call[0]](*call[1:]))
        if answer != exact:
            found.append((call, answer, exact))
        if len(found) == 3:
            break
    return found
