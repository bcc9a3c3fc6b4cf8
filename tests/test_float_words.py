"""Each floating-point instruction against the call that answers the same alone."""

from itertools import product

from tests.helper import BOX, DOUBLE, FFLAGS, FORMS, FRM, HALF, NAMED, SINGLE, STOP_WORD, WIDTH, MachineTest
from tests.helper import CAUSE, NO_CAUSE, PC, VALUE, f, ask, canonical, line, program_call, set_calls
from tests.helper import word_float, word_fused

TOP = 2**64 - 1
ARITHMETIC = {0x00: 0, 0x01: 1, 0x02: 2, 0x03: 3}
KIND_OF_F3 = {2: 0, 1: 1, 0: 2, 5: 3, 4: 4}
OPERATION_OF_F3 = {0x04: {0: 11, 1: 12, 2: 13}, 0x05: {0: 9, 1: 10}}

# Where the operands stand, and where the result goes: f3, f4, f5, and f6 or x6.
A, B, C, RD = 3, 4, 5, 6


def seen(form, content):
    """The bits that an f register's content counts as."""
    return content % 2**WIDTH[form] if content >= BOX[form] else canonical(form)


def sign_extended(number, bits):
    number %= 2**bits
    return number % 2**64 if number < 2**(bits - 1) else (number - 2**bits) % 2**64


class Instruction:
    """How an instruction's word is made, and which call answers the same.

    by_mode: whether f3 is a mode; else f3s are those that are legal. call: from the f3 (the mode,
    if it is one), the operands' contents of f registers, and that of x3, to a call, or to a result
    that raises nothing. to_f: the format in which f rd gets the result, or None if rd gets it.
    """

    def __init__(self, fm, word, call, to_f, f3s=None, bits=64):
        self.fm, self.word, self.call, self.to_f, self.f3s, self.bits = fm, word, call, to_f, f3s, bits
        self.by_mode = f3s is None

    def meaning(self, f3, frm):
        """The mode or f3 that the call is made with; None if the word is not legal."""
        if not self.by_mode:
            return f3 if f3 in self.f3s else None
        mode = frm if f3 == 7 else f3
        return mode if mode <= 4 else None

    def place(self):
        return RD if self.to_f is None else f(RD)

    def content(self, result):
        """What stands in the place of such a result."""
        if self.to_f is None:
            return sign_extended(result, self.bits)
        return result | BOX[self.to_f]


def float_instruction(fm, f5, rs2, call, to_f, **more):
    return Instruction(fm, lambda f3: word_float(f5, fm, RD, f3, A, rs2), call, to_f, **more)


def instructions_of_operations(fm):
    found = []
    for operation in (5, 6, 7, 8):
        found.append(Instruction(
            fm, lambda f3, operation=operation: word_fused(operation, fm, RD, f3, A, B, C),
            lambda mode, held, x, operation=operation: [0, fm, operation, mode] + [seen(fm, v) for v in held], fm))
    for f5, operation in ARITHMETIC.items():
        found.append(float_instruction(
            fm, f5, B, lambda mode, held, x, operation=operation: [
                0, fm, operation, mode, seen(fm, held[0]), seen(fm, held[1]), 0], fm))
    for f5, rs2, operation in ((0x0B, 0, 4), (0x08, 4, 14), (0x08, 5, 15)):
        found.append(float_instruction(
            fm, f5, rs2, lambda mode, held, x, operation=operation: [
                0, fm, operation, mode, seen(fm, held[0]), 0, 0], fm))
    for f5, operations in OPERATION_OF_F3.items():
        found.append(float_instruction(
            fm, f5, B, lambda f3, held, x, operations=operations: [
                0, fm, operations[f3], 0, seen(fm, held[0]), seen(fm, held[1]), 0], fm, f3s=list(operations)))
    return found


def other_instructions(fm):
    found = [
        float_instruction(fm, 0x14, B, lambda f3, held, x: [
            1, fm, KIND_OF_F3[f3], seen(fm, held[0]), seen(fm, held[1])], None, f3s=list(KIND_OF_F3)),
        # f3 1 of f5 1C tells a class, f3 0 moves bits.
        float_instruction(fm, 0x1C, 0, lambda f3, held, x: (
            [2, fm, seen(fm, held[0])] if f3 == 1 else sign_extended(held[0], WIDTH[fm])), None, f3s=[0, 1]),
        float_instruction(fm, 0x1E, 0, lambda f3, held, x: x % 2**WIDTH[fm], fm, f3s=[0])]
    for source in FORMS:
        if source != fm:
            found.append(float_instruction(fm, 0x08, source, lambda mode, held, x, source=source: [
                3, source, fm, mode, seen(source, held[0])], fm))
    for rs2 in range(4):
        found.append(float_instruction(fm, 0x18, rs2, lambda mode, held, x, rs2=rs2: [
            4, fm, 4 + rs2, mode, seen(fm, held[0])], None, bits=32 if rs2 < 2 else 64))
        found.append(float_instruction(fm, 0x1A, rs2, lambda mode, held, x, rs2=rs2: [
            5, fm, 4 + rs2, mode, x], fm))
    return found


INSTRUCTIONS = [instruction for fm in FORMS for instruction in instructions_of_operations(fm) + other_instructions(fm)]


class Case:
    """One word on its operands, from what is held to what is to be told behind it."""

    def __init__(self, instruction, f3, frm, operands, x, fflags):
        self.instruction = instruction
        self.word = instruction.word(f3)
        self.held = {FRM: frm, FFLAGS: fflags, A: x, f(A): operands[0], f(B): operands[1], f(C): operands[2],
                     RD: 0x1234, f(RD): 0x5678}
        meaning = instruction.meaning(f3, frm)
        self.legal = meaning is not None
        self.call = instruction.call(meaning, operands, x) if self.legal else None
        self.fflags = fflags

    def calls(self):
        looked = [self.instruction.place(), FFLAGS, FRM, PC, CAUSE, VALUE]
        return [[6], program_call([self.word])] + set_calls(self.held) + [[8, 1]] + [[9, place] for place in looked]

    def expected(self, answer):
        """What the run and the gets behind it tell, the answer being that of the call alone."""
        if not self.legal:
            told = [self.held[self.instruction.place()], self.fflags, self.held[FRM], 0, 2, self.word]
            return [[0, 3, 0]] + [[0, v] for v in told]
        if isinstance(self.call, int):
            result, flags = self.call, 0
        else:
            result, flags = answer[1], answer[2] if len(answer) > 2 else 0
        told = [self.instruction.content(result), self.fflags | flags, self.held[FRM], 4, NO_CAUSE, 0]
        return [[0, 0, 1]] + [[0, v] for v in told]


class AgainstTheCalls(MachineTest):
    def hold(self, cases):
        asked = [case.call for case in cases if isinstance(case.call, list)]
        alone = iter(ask(asked))
        for start in range(0, len(cases), 20):
            part = cases[start:start + 20]
            calls = [case.calls() for case in part]
            told = line([call for some in calls for call in some])
            at = 0
            for case, some in zip(part, calls):
                heard = told[at + len(some) - 7:at + len(some)]
                at += len(some)
                answer = next(alone) if isinstance(case.call, list) else None
                self.assertEqual(heard, case.expected(answer), (hex(case.word), case.held))

    def operands(self, form):
        """Contents of f registers that hold numbers of the format, boxed or not, and of other formats."""
        named, box = NAMED[form], BOX[form]
        boxed = [v | box for v in (named.one, named.three, named.minus(named.above_one), named.least,
                                   named.greatest, named.infinity, named.minus(0), named.signaling)]
        # The same numbers with the box's lowest bit, its uppermost bit, or all of it missing.
        width = WIDTH[form]
        if form != DOUBLE:
            boxed += [named.one | box ^ 1 << width, named.one | box ^ 1 << 63, named.three,
                      NAMED[DOUBLE].signaling]
        return boxed + [named.quiet | box, (named.half | box) if form == DOUBLE else NAMED[HALF].one | BOX[HALF]]

    def test_every_f3_and_every_frm(self):
        # 1/3, 1 + 2^-F and 3: nearly every operation on them rounds, and the modes differ.
        thirds = ((0x3EAAAAAB, 0x3F800001, 0x40400000), (0x3FD5555555555555, 0x3FF0000000000001, 0x4008000000000000),
                  (0x3555, 0x3C01, 0x4200))
        cases = []
        for instruction in INSTRUCTIONS:
            third, above_one, three = thirds[instruction.fm]
            for f3, frm in product(range(8), repeat=2):
                for operands in ((third, above_one, three), (above_one, third, NAMED[instruction.fm].minus(above_one))):
                    held = [v | BOX[instruction.fm] for v in operands]
                    cases.append(Case(instruction, f3, frm, held, 0xFEDCBA9876543211, 0))
        self.hold(cases)

    def test_conversions_round_by_the_mode(self):
        a = {SINGLE: 0x42F6E979 | BOX[SINGLE], DOUBLE: 0x405EDD2F1A9FBE77, HALF: 0x57B7 | BOX[HALF]}
        cases = []
        for instruction in INSTRUCTIONS:
            for content in a.values():
                for sign in (0, 1 << 63, 1 << 31, 1 << 15):
                    for mode in range(5):
                        held = [content | sign, content, content]
                        f3 = mode if instruction.by_mode else instruction.f3s[mode % len(instruction.f3s)]
                        cases.append(Case(instruction, f3, 6, held, 0x8000000180000001 + mode, 0))
        self.hold(cases)

    def test_operands_boxed_and_not(self):
        cases = []
        count = 0
        for instruction in INSTRUCTIONS:
            for form in FORMS:
                contents = self.operands(form)
                for a in contents:
                    for b in contents:
                        count += 1
                        c = contents[count * 5 % len(contents)]
                        f3 = count % 5 if instruction.by_mode else instruction.f3s[count % len(instruction.f3s)]
                        x = (a * 0x9E3779B97F4A7C15 + count) % 2**64
                        cases.append(Case(instruction, f3, count % 8, [a, b, c], x, count % 32))
        self.hold(cases)

    def test_flags_stay_raised(self):
        cases = []
        for instruction in INSTRUCTIONS:
            for fflags in range(32):
                f3 = 0 if instruction.by_mode else instruction.f3s[0]
                cases.append(Case(instruction, f3, 0, [NAMED[SINGLE].signaling | BOX[SINGLE]] * 3, fflags, fflags))
                cases.append(Case(instruction, f3, 0, [NAMED[DOUBLE].one, 0, NAMED[DOUBLE].three], fflags, fflags))
        self.hold(cases)

    def test_whole_numbers(self):
        rows = (0, 1, 2**31 - 1, 2**31, 2**32 - 1, 2**32, 2**63 - 1, 2**63, 2**63 + 1, TOP, 0xFFFFFFFF80000000,
                0x00000000FFFFFFFF, 0x0FFFFFF880000001, 2**53 + 1, 2**24 + 1, 2**11 + 1, 65519, 65520)
        cases = []
        for instruction in INSTRUCTIONS:
            for x in rows:
                f3 = x % 5 if instruction.by_mode else instruction.f3s[0]
                cases.append(Case(instruction, f3, 0, [x, x, x], x, 0))
        self.hold(cases)


class WrittenOut(MachineTest):
    """Words as assemblers write them, and what they answer, bit by bit."""

    def test_singles(self):
        held = {f(2): 0xFFFFFFFF3F800000, f(3): 0xFFFFFFFF40400000, f(4): 0xFFFFFFFF40000000}
        # fadd.s f1, f2, f3, rne; fsub.s; fmul.s; fdiv.s f1, f2, f3, rtz
        self.does(0x003100D3, held, {f(1): 0xFFFFFFFF40800000})
        self.does(0x083100D3, held, {f(1): 0xFFFFFFFFC0000000})
        self.does(0x103100D3, held, {f(1): 0xFFFFFFFF40400000})
        self.does(0x183110D3, held, {f(1): 0xFFFFFFFF3EAAAAAA, FFLAGS: 1})
        # fmadd.s f1, f2, f3, f4, rne; fmsub.s; fnmsub.s; fnmadd.s
        self.does(0x203100C3, held, {f(1): 0xFFFFFFFF40A00000})
        self.does(0x203100C7, held, {f(1): 0xFFFFFFFF3F800000})
        self.does(0x203100CB, held, {f(1): 0xFFFFFFFFBF800000})
        self.does(0x203100CF, held, {f(1): 0xFFFFFFFFC0A00000})

    def test_doubles(self):
        held = {f(2): 0x3FF0000000000000, f(3): 0x4008000000000000}
        # fadd.d f1, f2, f3, rne; fsqrt.d f1, f3, rup; feq.d x1, f2, f3; flt.d; fle.d; fclass.d x1, f2
        self.does(0x023100D3, held, {f(1): 0x4010000000000000})
        self.does(0x5A01B0D3, held, {f(1): 0x3FFBB67AE8584CAB, FFLAGS: 1})
        self.does(0xA23120D3, held, {1: 0})
        self.does(0xA23110D3, held, {1: 1})
        self.does(0xA23100D3, held, {1: 1})
        self.does(0xE20110D3, held, {1: 64})

    def test_halves(self):
        held = {f(2): 0xFFFFFFFFFFFF3C00, f(3): 0xFFFFFFFFFFFFC200}
        # fmin.h f1, f2, f3; fmax.h; fsgnj.h; fsgnjn.h; fsgnjx.h
        self.does(0x2C3100D3, held, {f(1): 0xFFFFFFFFFFFFC200})
        self.does(0x2C3110D3, held, {f(1): 0xFFFFFFFFFFFF3C00})
        self.does(0x243100D3, held, {f(1): 0xFFFFFFFFFFFFBC00})
        self.does(0x243110D3, held, {f(1): 0xFFFFFFFFFFFF3C00})
        self.does(0x243120D3, held, {f(1): 0xFFFFFFFFFFFFBC00})

    def test_conversions(self):
        held = {f(2): 0x400C000000000000, f(3): 0xFFFFFFFF3FC00000, 2: TOP, FRM: 1}
        # fcvt.s.d f1, f2, dyn; fcvt.d.s f1, f3; fcvt.h.s f1, f3, dyn; fcvt.w.d x1, f2, rtz; fcvt.wu.d; fcvt.l.d
        self.does(0x401170D3, held, {f(1): 0xFFFFFFFF40600000})
        self.does(0x420180D3, held, {f(1): 0x3FF8000000000000})
        self.does(0x4401F0D3, held, {f(1): 0xFFFFFFFFFFFF3E00})
        self.does(0xC20110D3, held, {1: 3, FFLAGS: 1})
        self.does(0xC21110D3, held, {1: 3, FFLAGS: 1})
        self.does(0xC22130D3, held, {1: 4, FFLAGS: 1})
        # fcvt.d.w f1, x2; fcvt.d.wu; fcvt.d.l; fcvt.d.lu f1, x2, rtz
        self.does(0xD20100D3, held, {f(1): 0xBFF0000000000000})
        self.does(0xD21100D3, held, {f(1): 0x41EFFFFFFFE00000})
        self.does(0xD22100D3, held, {f(1): 0xBFF0000000000000})
        self.does(0xD23110D3, held, {f(1): 0x43EFFFFFFFFFFFFF, FFLAGS: 1})
        # fround.d f1, f2, rne; froundnx.d f1, f2, rne
        self.does(0x424100D3, held, {f(1): 0x4010000000000000})
        self.does(0x425100D3, held, {f(1): 0x4010000000000000, FFLAGS: 1})

    def test_moves(self):
        held = {f(2): 0x12345678F2345678, 2: 0x89ABCDEFFEDCBA98}
        # fmv.x.w x1, f2; fmv.x.d; fmv.x.h; fmv.w.x f1, x2; fmv.d.x; fmv.h.x
        self.does(0xE00100D3, held, {1: 0xFFFFFFFFF2345678})
        self.does(0xE20100D3, held, {1: 0x12345678F2345678})
        self.does(0xE40100D3, held, {1: 0x5678})
        self.does(0xF00100D3, held, {f(1): 0xFFFFFFFFFEDCBA98})
        self.does(0xF20100D3, held, {f(1): 0x89ABCDEFFEDCBA98})
        self.does(0xF40100D3, held, {f(1): 0xFFFFFFFFFFFFBA98})

    def test_quiet_comparisons(self):
        held = {f(2): 0x7FF8000000000000, f(3): 0x4008000000000000, FFLAGS: 2}
        # fltq.d x1, f2, f3; fleq.d; flt.d; fle.d; feq.d
        self.does(0xA23150D3, held, {1: 0})
        self.does(0xA23140D3, held, {1: 0})
        self.does(0xA23110D3, held, {1: 0, FFLAGS: 18})
        self.does(0xA23100D3, held, {1: 0, FFLAGS: 18})
        self.does(0xA23120D3, held, {1: 0})


class WholeNumbersOf32Bits(MachineTest):
    def test_sign_extended_in_both_sorts(self):
        rows = ((0x41E0000000000000, 0x000000007FFFFFFF, 16, 0xFFFFFFFF80000000, 0),
                (0x41EFFFFFFFE00000, 0x000000007FFFFFFF, 16, TOP, 0),
                (0x41F0000000000000, 0x000000007FFFFFFF, 16, TOP, 16),
                (0xC1E0000000000000, 0xFFFFFFFF80000000, 0, 0, 16),
                (0x7FF8000000000000, 0x000000007FFFFFFF, 16, TOP, 16),
                (0xFFF0000000000000, 0xFFFFFFFF80000000, 16, 0, 16),
                (0xBFF0000000000000, TOP, 0, 0, 16),
                (0x41DFFFFFFFC00000, 0x000000007FFFFFFF, 0, 0x000000007FFFFFFF, 0))
        for a, with_sign, flags, without, other_flags in rows:
            held = {f(A): a, FFLAGS: 0}
            self.does(word_float(0x18, DOUBLE, RD, 0, A, 0), held, {RD: with_sign, FFLAGS: flags})
            self.does(word_float(0x18, DOUBLE, RD, 0, A, 1), held, {RD: without, FFLAGS: other_flags})


class Registers(MachineTest):
    """Which registers are read and written, all else staying as it was."""

    def numbers(self, form):
        """Ten numbers' contents, by f register from 1 on."""
        return {f(place): BOX[form] | NAMED[form].one + place for place in range(1, 11)}

    def test_rd_the_same_register_as_an_operand(self):
        for form in FORMS:
            held = self.numbers(form)
            for places in ((1, 2, 3, 1), (1, 2, 3, 2), (1, 2, 3, 3), (1, 1, 1, 1), (2, 1, 1, 2), (4, 3, 4, 4)):
                a, b, c = [held[f(place)] % 2**WIDTH[form] for place in places[:3]]
                rd = places[3]
                for operation in (5, 6, 7, 8):
                    bits, flags = ask([[0, form, operation, 0, a, b, c]])[0][1:]
                    word = word_fused(operation, form, rd, 0, places[0], places[1], places[2])
                    self.does(word, held, {f(rd): bits | BOX[form], FFLAGS: flags})
                for f5, operation in ARITHMETIC.items():
                    bits, flags = ask([[0, form, operation, 3, a, b, 0]])[0][1:]
                    self.does(word_float(f5, form, rd, 3, places[0], places[1]), held,
                              {f(rd): bits | BOX[form], FFLAGS: flags})

    def test_x_and_f_registers_of_one_number_are_apart(self):
        for form in FORMS:
            one = NAMED[form].one | BOX[form]
            self.does(word_float(0x14, form, 5, 2, 5, 5), {f(5): one, 5: 77}, {5: 1})
            self.does(word_float(0x18, form, 5, 0, 5, 2), {f(5): one, 5: 77}, {5: 1})
            self.does(word_float(0x1A, form, 5, 0, 5, 2), {f(5): 0, 5: 1}, {f(5): one})
            self.does(word_float(0x1C, form, 5, 1, 5, 0), {f(5): one, 5: 77}, {5: 64})
            self.does(word_float(0x1E, form, 5, 0, 5, 0), {f(5): 0, 5: NAMED[form].one}, {f(5): one})

    def test_rd_0(self):
        for form in FORMS:
            held = {f(A): NAMED[form].signaling | BOX[form], f(B): NAMED[form].one | BOX[form]}
            # x0 stays 0, but flags are raised; f0 is written.
            self.does(word_float(0x14, form, 0, 2, A, B), held, {FFLAGS: 16})
            self.does(word_float(0x18, form, 0, 0, A, 0), held, {FFLAGS: 16})
            self.does(word_float(0x1C, form, 0, 0, A, 0), held, {})
            self.does(word_float(0x1C, form, 0, 1, A, 0), held, {})
            self.does(word_float(0x00, form, 0, 0, B, B), held, {f(0): NAMED[form].two | BOX[form]})

    def test_x0_as_an_operand(self):
        for form in FORMS:
            self.does(word_float(0x1A, form, 7, 0, 0, 0), {}, {f(7): BOX[form]})
            self.does(word_float(0x1E, form, 7, 0, 0, 0), {}, {f(7): BOX[form]})

    def test_each_place(self):
        for place in range(32):
            one, two = NAMED[HALF].one | BOX[HALF], NAMED[HALF].two | BOX[HALF]
            other, third = (place + 7) % 32, (place + 19) % 32
            held = {f(place): one, f(other): two, f(third): two}
            self.does(word_float(0x00, HALF, third, 0, place, other), held, {f(third): NAMED[HALF].three | BOX[HALF]})
            # 2 2 - 1, -(1 2) + 2
            self.does(word_fused(6, HALF, place, 0, other, third, place), held,
                      {f(place): NAMED[HALF].three | BOX[HALF]})
            self.does(word_fused(7, HALF, other, 0, place, third, other), held, {f(other): BOX[HALF]})


class Boxes(MachineTest):
    def test_what_is_not_boxed_counts_as_the_canonical_nan(self):
        for form in (SINGLE, HALF):
            named, box = NAMED[form], BOX[form]
            nan = named.canonical | box
            for content in (named.one, 0, named.one | box ^ 1 << WIDTH[form], named.one | box ^ 1 << 63,
                            NAMED[DOUBLE].one, box - 1):
                held = {f(A): content, f(B): named.one | box}
                self.does(word_float(0x00, form, RD, 0, A, B), held, {f(RD): nan})
                self.does(word_float(0x03, form, RD, 0, B, A), held, {f(RD): nan})
                self.does(word_fused(5, form, RD, 0, B, B, A), held, {f(RD): nan})
                self.does(word_float(0x04, form, RD, 0, A, B), held, {f(RD): nan})
                self.does(word_float(0x04, form, RD, 1, A, B), held, {f(RD): nan | named.sign})
                self.does(word_float(0x04, form, RD, 1, B, A), held, {f(RD): (named.one | box) | named.sign})
                self.does(word_float(0x05, form, RD, 0, A, B), held, {f(RD): named.one | box})
                self.does(word_float(0x14, form, RD, 2, A, A), held, {RD: 0})
                self.does(word_float(0x14, form, RD, 1, A, B), held, {RD: 0, FFLAGS: 16})
                self.does(word_float(0x18, form, RD, 0, A, 2), held, {RD: 2**63 - 1, FFLAGS: 16})
                self.does(word_float(0x1C, form, RD, 1, A, 0), held, {RD: 512})
                self.does(word_float(0x08, DOUBLE, RD, 0, A, form), held, {f(RD): NAMED[DOUBLE].canonical})
                self.does(word_float(0x08, form, RD, 0, A, 5), held, {f(RD): nan})
                self.does(word_float(0x0B, form, RD, 0, A, 0), held, {f(RD): nan})

    def test_a_boxed_half_is_a_boxed_single_too(self):
        half = NAMED[HALF].one | BOX[HALF]
        # As a single, its upper 16 bits are ones: a quiet NaN.
        self.does(word_float(0x1C, SINGLE, RD, 1, A, 0), {f(A): half}, {RD: 512})
        self.does(word_float(0x04, SINGLE, RD, 0, A, A), {f(A): half}, {f(RD): half})
        self.does(word_float(0x1C, DOUBLE, RD, 1, A, 0), {f(A): half}, {RD: 512})

    def test_moves_look_at_no_box(self):
        for content in (0, 0x00000000FFFF8000, 0x7FF0000012347FFF, 0xFFFFFFFF80000000, 0xFFFFFFFFFFFF8001):
            for form, width in ((SINGLE, 32), (DOUBLE, 64), (HALF, 16)):
                self.does(word_float(0x1C, form, RD, 0, A, 0), {f(A): content}, {RD: sign_extended(content, width)})
                self.does(word_float(0x1E, form, RD, 0, A, 0), {A: content},
                          {f(RD): content % 2**width | BOX[form]})

    def test_at_first_every_register_is_a_nan_as_single_and_half(self):
        words = [word_float(0x1C, form, 1 + form, 1, 9, 0) for form in FORMS] + [STOP_WORD]
        told = line([program_call(words), [8, 9], [9, 1], [9, 2], [9, 3]])
        self.assertEqual(told, [[0, 0], [0, 2, 4], [0, 512], [0, 16], [0, 512]])


class NotLegal(MachineTest):
    def refused(self, word):
        self.is_not_legal(word, {FRM: 0})

    def test_format_3(self):
        for operation in (5, 6, 7, 8):
            for f3 in (0, 4, 7):
                self.refused(word_fused(operation, 3, RD, f3, A, B, C))
        for f5 in range(32):
            for f3 in range(8):
                for rs2 in (0, 1, 4):
                    self.refused(word_float(f5, 3, RD, f3, A, rs2))

    def test_rs2_bits_that_are_not_told(self):
        told = {0x0B: (0,), 0x18: (0, 1, 2, 3), 0x1A: (0, 1, 2, 3), 0x1C: (0,), 0x1E: (0,)}
        for form in FORMS:
            for f5, rows in told.items():
                for rs2 in range(32):
                    if rs2 not in rows:
                        for f3 in (0, 1):
                            self.refused(word_float(f5, form, RD, f3, A, rs2))
            for rs2 in range(32):
                if rs2 not in (4, 5) and (rs2 > 2 or rs2 == form):
                    self.refused(word_float(0x08, form, RD, 0, A, rs2))
                    self.refused(word_float(0x08, form, RD, 7, A, rs2))

    def test_other_f5(self):
        told = (0x00, 0x01, 0x02, 0x03, 0x04, 0x05, 0x08, 0x0B, 0x14, 0x18, 0x1A, 0x1C, 0x1E)
        for f5 in range(32):
            if f5 not in told:
                for form in FORMS:
                    for f3 in range(8):
                        self.refused(word_float(f5, form, RD, f3, A, 0))
                        self.refused(word_float(f5, form, RD, f3, A, B))

    def test_modes(self):
        for form in FORMS:
            words = [word_fused(5, form, RD, f3, A, B, C) for f3 in (5, 6)]
            words += [word_float(f5, form, RD, f3, A, 0) for f5 in (0, 1, 2, 3, 0x0B, 0x18, 0x1A) for f3 in (5, 6)]
            words += [word_float(0x08, form, RD, f3, A, rs2) for f3 in (5, 6) for rs2 in (0, 1, 2, 4, 5)]
            for word in words:
                for frm in (0, 4, 7):
                    self.is_not_legal(word, {FRM: frm})
                for frm in (5, 6, 7):
                    self.is_not_legal(word | 7 << 12, {FRM: frm})

    def test_frm_is_not_looked_at_but_by_f3_7(self):
        for form in FORMS:
            held = {f(A): NAMED[form].one | BOX[form], FRM: 6}
            self.does(word_float(0x00, form, RD, 1, A, A), held, {f(RD): NAMED[form].two | BOX[form]})
            self.does(word_float(0x05, form, RD, 1, A, A), held, {f(RD): NAMED[form].one | BOX[form]})
            self.does(word_float(0x1C, form, RD, 1, A, 0), held, {RD: 64})
