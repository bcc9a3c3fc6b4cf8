"""The machine against a second one, written here apart from the program, at many drawn programs.

The second machine goes from the document's words: an instruction tells what it changes, as a list,
and only then is that done.
"""

import unittest
from random import Random

from tests.helper import BOX, EXACT, FORMS, LOOK, NAMED, PC, REFUSED, STOP_WORD, WIDTH, Drawn, Number
from tests.helper import canonical, exact_compare, exact_convert, exact_floating, exact_op, exact_whole
from tests.helper import line, program_call, write_call
from tests.helper import word_b, word_float, word_fused, word_i, word_j, word_r, word_s, word_u

M = 2**64


class Refusal(Exception):
    pass


class SecondFault(Exception):
    def __init__(self, number, value):
        Exception.__init__(self)
        self.number = number
        self.value = value % M


def exact_class(form, a):
    x = Number(form, a)
    if x.is_nan:
        return 2**8 if x.is_signaling else 2**9
    rows = [x.is_infinite, not (x.is_infinite or x.is_subnormal or x.is_zero), x.is_subnormal, x.is_zero]
    return 2**(rows.index(True) if x.sign else 7 - rows.index(True))


class Second:
    def __init__(self):
        self.new()

    def new(self):
        self.held = {place: 0 for place in range(69)}
        self.held[67] = M - 1
        self.words = []
        self.memory = bytearray(4096)

    # The calls.

    def call(self, call):
        try:
            return [0] + self.answer(call[0], call[1:])
        except Refusal:
            return REFUSED

    def answer(self, which, numbers):
        if which <= 5:
            return self.answer_of_numbers(which, numbers)
        return [self.answer_new, self.answer_program, self.answer_run, self.answer_get, self.answer_set,
                self.answer_read, self.answer_write][which - 6](*numbers)

    def answer_of_numbers(self, which, numbers):
        greatest = {0: (2, 15, 4), 1: (2, 4), 2: (2,), 3: (2, 2, 4), 4: (2, 7, 4), 5: (2, 7, 4)}[which]
        self.keep(all(number <= most for number, most in zip(numbers, greatest)))
        if which == 2:
            return [exact_class(*numbers)]
        return list(EXACT[which](*numbers))

    def keep(self, so):
        if not so:
            raise Refusal

    def answer_new(self):
        self.new()
        return [0]

    def answer_program(self, count, *words):
        self.keep(count <= 1024)
        self.words = words
        self.held[66] = 0
        return [0]

    def answer_run(self, steps):
        self.keep(steps <= 1000)
        made, stopped = 0, False
        while True:
            if stopped:
                return [2, made]
            if made == steps:
                return [0, made]
            if self.held[66] == 4 * len(self.words):
                return [1, made]
            try:
                stopped = self.step()
            except SecondFault as fault:
                self.held[67], self.held[68] = fault.number, fault.value
                return [3, made]
            made += 1

    def answer_get(self, what):
        self.keep(what <= 68)
        return [self.held[what]]

    def answer_set(self, what, v):
        self.keep(what <= 66)
        self.put(what, v % {64: 8, 65: 32}.get(what, M))
        return [0]

    def answer_read(self, at, n):
        self.keep(at + n <= 4096)
        return [n] + list(self.memory[at:at + n])

    def answer_write(self, at, count, *row):
        self.keep(at + count <= 4096)
        self.memory[at:at + count] = bytes(row)
        return [0]

    # A step.

    def put(self, place, v):
        if place == "memory":
            self.memory[v[0]:v[0] + len(v[1])] = v[1]
        elif place == "flags":
            self.held[65] |= v
        elif place != 0:
            self.held[place] = v % M

    def step(self):
        pc = self.held[66]
        if pc > 4 * len(self.words) or pc % 4:
            raise SecondFault(1, pc)
        self.word = self.words[pc // 4]
        bits = format(self.word, "032b")
        self.bits = lambda low, high: int(bits[31 - high:32 - low], 2)
        self.signs = lambda text: int(text, 2) - (2**len(text) if text[0] == "1" else 0)
        self.text = lambda low, high: bits[31 - high:32 - low]
        self.rd, self.f3 = self.bits(7, 11), self.bits(12, 14)
        self.rs1, self.rs2, self.rs3 = self.bits(15, 19), self.bits(20, 24), self.bits(27, 31)
        self.fm, self.f5, self.f7 = self.bits(25, 26), self.bits(27, 31), self.bits(25, 31)
        for place, v in [(66, pc + 4)] + self.changes(self.bits(0, 6)):
            self.put(place, v)
        return self.word == STOP_WORD

    def legal(self, so):
        if not so:
            raise SecondFault(2, self.word)

    def x(self, place):
        return self.held[place]

    def changes(self, opcode):
        found = {0x37: self.upper, 0x13: self.offset, 0x33: self.sum, 0x63: self.branch, 0x6F: self.jump,
                 0x73: self.control, 0x07: self.load, 0x27: self.store, 0x43: self.fused, 0x47: self.fused,
                 0x4B: self.fused, 0x4F: self.fused, 0x53: self.floats}.get(opcode)
        self.legal(found is not None)
        return found()

    def upper(self):
        return [(self.rd, self.signs(self.text(12, 31)) * 4096)]

    def offset(self):
        self.legal(self.f3 == 0)
        return [(self.rd, self.x(self.rs1) + self.signs(self.text(20, 31)))]

    def sum(self):
        self.legal(self.f3 == 0 and self.f7 in (0, 32))
        return [(self.rd, self.x(self.rs1) + self.x(self.rs2) * (1 if self.f7 == 0 else -1))]

    def target(self, text):
        pc = (self.held[66] + self.signs(text + "0")) % M
        if pc % 4:
            raise SecondFault(0, pc)
        return (66, pc)

    def branch(self):
        self.legal(self.f3 in (0, 1, 4, 5))
        x, y = [self.signs(format(self.x(place), "064b")) for place in (self.rs1, self.rs2)]
        if not [x == y, x != y, None, None, x < y, x >= y][self.f3]:
            return []
        return [self.target(self.text(31, 31) + self.text(7, 7) + self.text(25, 30) + self.text(8, 11))]

    def jump(self):
        target = self.target(self.text(31, 31) + self.text(12, 19) + self.text(20, 20) + self.text(21, 30))
        return [(self.rd, self.held[66] + 4), target]

    def control(self):
        if self.word == STOP_WORD:
            return []
        which = self.bits(20, 31)
        self.legal(which in (1, 2, 3) and self.f3 not in (0, 4))
        flags, frm = self.held[65], self.held[64]
        old = [None, flags, frm, flags + 32 * frm][which]
        n = self.rs1 if self.f3 > 4 else self.x(self.rs1)
        new = [None, n, old | n, old & (M - 1 - n)][self.f3 % 4]
        first = [(self.rd, old)]
        if self.f3 % 4 != 1 and self.rs1 == 0:
            return first
        if which == 1:
            return first + [(65, new % 32)]
        if which == 2:
            return first + [(64, new % 8)]
        return first + [(65, new % 32), (64, new // 32 % 8)]

    def address(self, text, size, fault):
        address = (self.x(self.rs1) + self.signs(text)) % M
        if address + size > 4096:
            raise SecondFault(fault, address)
        return address

    def load(self):
        self.legal(self.f3 in (1, 2, 3))
        size = 2**self.f3
        at = self.address(self.text(20, 31), size, 5)
        content = bytes(self.memory[at:at + size]) + b"\xff" * (8 - size)
        return [(32 + self.rd, int.from_bytes(content, "little"))]

    def store(self):
        self.legal(self.f3 in (1, 2, 3))
        size = 2**self.f3
        at = self.address(self.text(25, 31) + self.text(7, 11), size, 7)
        return [("memory", (at, self.held[32 + self.rs2].to_bytes(8, "little")[:size]))]

    def number(self, form, place):
        content = format(self.held[32 + place], "064b")
        above, bits = content[:64 - WIDTH[form]], content[64 - WIDTH[form]:]
        return canonical(form) if "0" in above else int(bits, 2)

    def mode(self):
        mode = self.held[64] if self.f3 == 7 else self.f3
        self.legal(mode < 5)
        return mode

    def to_f(self, answer):
        return [(32 + self.rd, answer[0] + BOX[self.fm]), ("flags", answer[1])]

    def fused(self):
        self.legal(self.fm < 3)
        numbers = [self.number(self.fm, place) for place in (self.rs1, self.rs2, self.rs3)]
        operation = {0x43: 5, 0x47: 6, 0x4B: 7, 0x4F: 8}[self.bits(0, 6)]
        return self.to_f(exact_op(self.fm, operation, self.mode(), *numbers))

    def floats(self):
        self.legal(self.fm < 3)
        found = {0x00: self.two, 0x01: self.two, 0x02: self.two, 0x03: self.two, 0x0B: self.root, 0x04: self.sign,
                 0x05: self.choice, 0x08: self.convert, 0x14: self.compare, 0x18: self.to_whole,
                 0x1A: self.from_whole, 0x1C: self.move_out, 0x1E: self.move_in}.get(self.f5)
        self.legal(found is not None)
        return found()

    def op(self, operation, mode):
        a, b = self.number(self.fm, self.rs1), self.number(self.fm, self.rs2)
        return self.to_f(exact_op(self.fm, operation, mode, a, b, 0))

    def two(self):
        return self.op(self.f5, self.mode())

    def root(self):
        self.legal(self.rs2 == 0)
        return self.op(4, self.mode())

    def sign(self):
        self.legal(self.f3 < 3)
        return self.op(11 + self.f3, 0)

    def choice(self):
        self.legal(self.f3 < 2)
        return self.op(9 + self.f3, 0)

    def convert(self):
        mode = self.mode()
        if self.rs2 in (4, 5):
            return self.op(10 + self.rs2, mode)
        self.legal(self.rs2 < 3 and self.rs2 != self.fm)
        return self.to_f(exact_convert(self.rs2, self.fm, mode, self.number(self.rs2, self.rs1)))

    def compare(self):
        self.legal(self.f3 in (0, 1, 2, 4, 5))
        kind = [2, 1, 0, None, 4, 3][self.f3]
        so, flags = exact_compare(self.fm, kind, self.number(self.fm, self.rs1), self.number(self.fm, self.rs2))
        return [(self.rd, so), ("flags", flags)]

    def to_whole(self):
        self.legal(self.rs2 < 4)
        number, flags = exact_whole(self.fm, 4 + self.rs2, self.mode(), self.number(self.fm, self.rs1))
        if self.rs2 < 2:
            number = self.signs(format(number % 2**32, "032b"))
        return [(self.rd, number), ("flags", flags)]

    def from_whole(self):
        self.legal(self.rs2 < 4)
        return self.to_f(exact_floating(self.fm, 4 + self.rs2, self.mode(), self.x(self.rs1)))

    def move_out(self):
        self.legal(self.rs2 == 0 and self.f3 < 2)
        if self.f3 == 1:
            return [(self.rd, exact_class(self.fm, self.number(self.fm, self.rs1)))]
        return [(self.rd, self.signs(format(self.held[32 + self.rs1], "064b")[64 - WIDTH[self.fm]:]))]

    def move_in(self):
        self.legal(self.rs2 == 0 and self.f3 == 0)
        return self.to_f((self.x(self.rs1) % 2**WIDTH[self.fm], 0))


class Programs:
    """Words drawn so that most are legal and work on each other's results."""

    def __init__(self, seed):
        self.drawn = Drawn(seed)
        self.draw = self.drawn.draw

    def place(self):
        """Few registers come often."""
        return self.draw.randrange(8) if self.draw.random() < 0.9 else self.draw.randrange(32)

    def f_place(self, fm):
        """Each format has f registers of its own, so that results aren't all NaNs for want of a box."""
        if fm == 3 or self.draw.random() < 0.06:
            return self.draw.randrange(32)
        return 4 * fm + self.draw.randrange(4)

    def mode(self):
        return self.draw.choice((0, 1, 2, 3, 4, 7, 7, 7)) if self.draw.random() < 0.98 else self.draw.randrange(8)

    def fm(self):
        return self.draw.randrange(3) if self.draw.random() < 0.99 else 3

    def whole(self):
        choice = self.draw.randrange(4)
        rd, rs1, rs2 = self.place(), self.place(), self.place()
        if choice == 0:
            return word_u(rd, self.draw.getrandbits(20))
        if choice == 1:
            return word_i(0x13, rd, 0, rs1, self.draw.randint(-2048, 2047))
        return word_r(0x33, rd, 0, rs1, rs2, 0x20 * (choice - 2))

    def jump(self):
        offset = 4 * self.draw.randint(-6, 9)
        if self.draw.random() < 0.06:
            offset += 2
        if self.draw.random() < 0.3:
            return word_j(self.place(), offset)
        return word_b(self.draw.choice((0, 1, 4, 5)), self.place(), self.place(), offset)

    def control(self):
        f3 = self.draw.choice((1, 2, 3, 5, 6, 7))
        # Now and then frm is given a mode that there is, so that f3 7 stays legal.
        if self.draw.random() < 0.5:
            return word_i(0x73, self.place(), 5, self.draw.randrange(5), 2)
        return word_i(0x73, self.place(), f3, self.place(), self.draw.choice((1, 1, 1, 3)))

    def memory(self):
        # x8 to x11 are kept for addresses.
        base, offset = self.draw.randrange(8, 12), self.draw.randint(-40, 40)
        form = self.draw.choice(FORMS)
        f3 = {0: 2, 1: 3, 2: 1}[form]
        if self.draw.random() < 0.4:
            return word_i(0x07, self.f_place(form), f3, base, offset)
        return word_s(0x27, f3, base, self.f_place(form), offset)

    def fused(self):
        fm = self.fm()
        return word_fused(self.draw.randint(5, 8), fm, self.f_place(fm), self.mode(),
                          self.f_place(fm), self.f_place(fm), self.f_place(fm))

    def arithmetic(self):
        fm = self.fm()
        return word_float(self.draw.randrange(4), fm, self.f_place(fm), self.mode(),
                          self.f_place(fm), self.f_place(fm))

    def floats(self):
        f5 = self.draw.choice((0x04, 0x05, 0x08, 0x08, 0x0B, 0x14, 0x18, 0x1A, 0x1A, 0x1C, 0x1E, 0x1E))
        fm, f3 = self.fm(), self.mode()
        rd, rs1, rs2 = self.f_place(fm), self.f_place(fm), self.f_place(fm)
        if f5 in (0x04, 0x05, 0x14):
            f3 = self.draw.randrange({0x04: 3, 0x05: 2, 0x14: 6}[f5])
        if f5 in (0x0B, 0x1C, 0x1E):
            rs2 = 0
        if f5 in (0x1C, 0x1E):
            f3 = self.draw.randrange(2) if f5 == 0x1C else 0
        if f5 in (0x18, 0x1A):
            rs2 = self.draw.randrange(4)
        if f5 == 0x08:
            rs2 = self.draw.choice([form for form in FORMS if form != fm] + [4, 5])
            rs1 = self.f_place(rs2 if rs2 < 3 else fm)
        if f5 in (0x14, 0x18, 0x1C):
            rd = self.place()
        if f5 in (0x1A, 0x1E):
            rs1 = self.place()
        return word_float(f5, fm, rd, f3, rs1, rs2)

    def any_word(self):
        word = self.draw.choice((self.floats, self.fused, self.control, self.jump))()
        if self.draw.random() < 0.5:
            return word ^ 1 << self.draw.randrange(32)
        return self.draw.getrandbits(32)

    def word(self):
        if self.draw.random() < 0.02:
            return STOP_WORD
        if self.draw.random() < 0.03:
            return self.any_word()
        kinds = (self.whole, self.jump, self.control, self.memory, self.fused, self.arithmetic, self.floats)
        return self.draw.choices(kinds, (3, 2, 1, 3, 4, 6, 6))[0]()

    def program(self):
        return [self.word() for count in range(self.draw.choice((3, 20, 60, 150)))]

    def content(self, form):
        """Of an f register: mostly a number of the format, boxed."""
        a = self.drawn.operand(form) % 2**WIDTH[form]
        if self.draw.random() < 0.1:
            return self.draw.getrandbits(64)
        if self.draw.random() < 0.3:
            # About 1, so that results stay within the formats' ranges.
            a = self.drawn.near(form, NAMED[form].one) % 2**WIDTH[form]
        return a + BOX[form]

    def address(self):
        return self.draw.choice((40, 2000, 4000, 4060, self.draw.randrange(4096), M - 30))

    def beginning(self):
        """The calls ahead of the runs."""
        calls = [program_call(self.program())]
        calls += [[10, place, self.draw.choice((self.draw.randrange(100), self.draw.getrandbits(64)))]
                  for place in range(8)]
        calls += [[10, place, self.address()] for place in range(8, 12)]
        calls += [[10, 32 + 4 * form + number, self.content(form)] for form in FORMS for number in range(4)]
        calls.append([10, self.draw.randrange(44, 64), self.content(self.draw.choice(FORMS))])
        calls += [[10, 64, self.draw.randrange(5)], [10, 65, self.draw.getrandbits(5)]]
        calls.append(write_call(self.draw.randrange(4000), self.draw.randbytes(90)))
        return calls


class DrawnLines(unittest.TestCase):
    def runs(self, programs, second, count):
        """Runs of a program, and what sets pc behind a fault, as the second machine tells of them."""
        calls, told = [], []

        def take(call):
            calls.append(call)
            told.append(second.call(call))

        for call in programs.beginning():
            take(call)
        for number in range(count):
            take([8, programs.draw.choice((0, 1, 2, 5, 20, 50))])
            if told[-1][1] == 1:
                take([10, PC, 4 * programs.draw.randrange(3)])
            if told[-1][1] == 3:
                if programs.draw.random() < 0.3:
                    take([8, 3])
                pc = second.held[PC] + 4
                take([10, PC, pc if pc <= 4 * len(second.words) else 0])
        for call in LOOK:
            take(call)
        return calls, told

    def hold(self, calls, told):
        heard = line(calls)
        for number, (call, answer, expected) in enumerate(zip(calls, heard, told)):
            if answer != expected:
                self.fail("call %d, %s, answers %s, it should be %s; all: %s"
                          % (number, call, answer, expected, calls))

    def test_programs(self):
        steps = 0
        endings = [0, 0, 0, 0]
        for seed in range(400):
            calls, told = self.runs(Programs(1000 + seed), Second(), 25)
            self.hold(calls, told)
            for call, answer in zip(calls, told):
                if call[0] == 8:
                    endings[answer[1]] += 1
                    steps += answer[2]
        # The programs are worth their name: they run, and end in each way.
        self.assertGreater(steps, 30000)
        self.assertGreater(min(endings), 200, endings)

    def test_several_programs_on_one_machine(self):
        for seed in range(60):
            programs, second = Programs(5000 + seed), Second()
            calls, told = [], []
            for count in range(3):
                more_calls, more_told = self.runs(programs, second, 4)
                calls, told = calls + more_calls, told + more_told
                if seed % 2:
                    calls.append([6])
                    told.append(second.call([6]))
            self.hold(calls, told)

    def test_single_words(self):
        """Each on a machine of its own state, faults among them as often as not."""
        draw = Random(7)
        for seed in range(120):
            programs, second = Programs(8000 + seed), Second()
            calls = programs.beginning()
            for count in range(60):
                word = draw.choice((programs.word, programs.any_word))()
                calls += [program_call([word]), [8, 1], [9, 65], [9, PC]]
            calls += LOOK
            self.hold(calls, [second.call(call) for call in calls])

    def test_calls_of_every_sort_in_any_order(self):
        draw = Random(11)
        short = (0, 1, 2, 3, 4, 5, 8, 15, 16, 31, 32, 64, 65, 66, 67, 68, 69, 100, 4090, 4096, 4097, 2**32 - 1)
        for seed in range(150):
            programs, second = Programs(9000 + seed), Second()

            def content():
                return programs.content(draw.choice(FORMS))

            makers = (
                lambda: [0, draw.choice((0, 1, 2, 3)), draw.randrange(17), draw.randrange(6)]
                + [content() for count in range(3)],
                lambda: [1, draw.choice((0, 1, 2, 3)), draw.randrange(6), content(), content()],
                lambda: [2, draw.choice((0, 1, 2, 3)), content()],
                lambda: [3, draw.randrange(4), draw.randrange(3), draw.randrange(6), content()],
                lambda: [4, draw.randrange(3), draw.randrange(9), draw.randrange(6), content()],
                lambda: [5, draw.randrange(3), draw.randrange(9), draw.randrange(6), draw.getrandbits(64)],
                lambda: [6],
                lambda: program_call([programs.word() for count in range(draw.randrange(30))]),
                lambda: [8, draw.choice(short + (1000, 1001))],
                lambda: [9, draw.choice(short)],
                lambda: [10, draw.choice(short), draw.choice((draw.getrandbits(64), 4 * draw.randrange(30)))],
                lambda: [11, draw.choice(short), draw.choice(short)],
                lambda: write_call(draw.choice(short), draw.randbytes(draw.choice((0, 1, 6, 40)))))
            weights = (3, 1, 1, 1, 1, 1, 0.3, 2, 6, 4, 6, 2, 3)
            calls = programs.beginning() + [draw.choices(makers, weights)[0]() for count in range(200)] + LOOK
            self.hold(calls, [second.call(call) for call in calls])
