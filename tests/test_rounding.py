"""Rounding by each mode, in each format, and the flags NX, UF and OF."""

import unittest

from tests.helper import DOUBLE, FORMS, HALF, MODES, NAMED, NX, OF, SINGLE, UF, op

ADD, SUBTRACT, MULTIPLY, FUSED = 0, 1, 2, 5

# Half of the last place of 1, half of that of the greatest number, and 2^B, in each format.
HALF_PLACE = (0x33800000, 0x3CA0000000000000, 0x1000)
HALF_GREATEST_PLACE = (0x73000000, 0x7C90000000000000, 0x4C00)
GREATEST_POWER = (0x7F000000, 0x7FE0000000000000, 0x7800)


class Rounding(unittest.TestCase):
    def by_modes(self, form, operation, operands, found):
        """found: the bits and the flags, for each mode."""
        for mode in MODES:
            with self.subTest(form=form, mode=mode):
                self.assertEqual(op(form, operation, mode, *operands), found[mode])

    def by_modes_and_signs(self, operation, choose):
        """choose: from a format's names to two operands, and by mode what is found for positive numbers.

        For negative ones the modes down and up change places.
        """
        for form in FORMS:
            named = NAMED[form]
            (a, b), found = choose(form, named)
            self.by_modes(form, operation, (a, b), found)
            negative = [(named.minus(bits), flags) for bits, flags in found]
            negative[2], negative[3] = negative[3], negative[2]
            other = b if operation == MULTIPLY else named.minus(b)
            self.by_modes(form, operation, (named.minus(a), other), negative)


class Grid(Rounding):
    def test_exact_results_raise_nothing(self):
        for form in FORMS:
            named = NAMED[form]
            self.by_modes(form, ADD, (named.one, named.two), [(named.three, 0)] * 5)

    def test_tie_above_an_even_number(self):
        self.by_modes_and_signs(ADD, lambda form, named: (
            (named.one, HALF_PLACE[form]),
            [(named.one, NX), (named.one, NX), (named.one, NX),
             (named.above_one, NX), (named.above_one, NX)]))

    def test_tie_above_an_odd_number(self):
        self.by_modes_and_signs(ADD, lambda form, named: (
            (named.above_one, HALF_PLACE[form]),
            [(named.above_one + 1, NX), (named.above_one, NX), (named.above_one, NX),
             (named.above_one + 1, NX), (named.above_one + 1, NX)]))

    def test_below_and_above_the_middle(self):
        self.by_modes_and_signs(ADD, lambda form, named: (
            (named.one, HALF_PLACE[form] - 1),
            [(named.one, NX), (named.one, NX), (named.one, NX), (named.above_one, NX), (named.one, NX)]))
        self.by_modes_and_signs(ADD, lambda form, named: (
            (named.one, HALF_PLACE[form] + 1),
            [(named.above_one, NX), (named.one, NX), (named.one, NX),
             (named.above_one, NX), (named.above_one, NX)]))

    def test_the_least_trace_of_a_number_counts(self):
        self.by_modes_and_signs(ADD, lambda form, named: (
            (named.greatest, named.least),
            [(named.greatest, NX), (named.greatest, NX), (named.greatest, NX),
             (named.infinity, OF | NX), (named.greatest, NX)]))

    def test_carry_into_the_next_power_of_two(self):
        self.by_modes_and_signs(ADD, lambda form, named: (
            (named.two - 1, HALF_PLACE[form]),
            [(named.two, NX), (named.two - 1, NX), (named.two - 1, NX),
             (named.two, NX), (named.two, NX)]))


class Overflow(Rounding):
    def expected(self, named):
        infinite, finite = (named.infinity, OF | NX), (named.greatest, OF | NX)
        return [infinite, finite, finite, infinite, infinite]

    def test_far_above_the_greatest_number(self):
        self.by_modes_and_signs(MULTIPLY, lambda form, named: (
            (named.greatest, named.greatest), self.expected(named)))
        self.by_modes_and_signs(ADD, lambda form, named: (
            (named.greatest, named.greatest), self.expected(named)))

    def test_an_exact_power_of_two_just_above(self):
        self.by_modes_and_signs(ADD, lambda form, named: (
            (GREATEST_POWER[form], GREATEST_POWER[form]), self.expected(named)))

    def test_tie_between_the_greatest_number_and_infinity(self):
        self.by_modes_and_signs(ADD, lambda form, named: (
            (named.greatest, HALF_GREATEST_PLACE[form]),
            [(named.infinity, OF | NX), (named.greatest, NX), (named.greatest, NX),
             (named.infinity, OF | NX), (named.infinity, OF | NX)]))

    def test_below_that_tie(self):
        self.by_modes_and_signs(ADD, lambda form, named: (
            (named.greatest, HALF_GREATEST_PLACE[form] - 1),
            [(named.greatest, NX), (named.greatest, NX), (named.greatest, NX),
             (named.infinity, OF | NX), (named.greatest, NX)]))


class Underflow(Rounding):
    def test_exact_subnormal_results_raise_nothing(self):
        for form in FORMS:
            named = NAMED[form]
            half_normal = named.least_normal // 2
            self.by_modes(form, MULTIPLY, (named.least_normal, named.half), [(half_normal, 0)] * 5)
            self.by_modes(form, ADD, (named.least, named.least), [(2, 0)] * 5)
            self.by_modes(form, ADD, (named.greatest_subnormal, named.least), [(named.least_normal, 0)] * 5)
            self.by_modes(form, SUBTRACT, (named.least_normal, named.least), [(named.greatest_subnormal, 0)] * 5)

    def test_half_of_the_least_number(self):
        self.by_modes_and_signs(MULTIPLY, lambda form, named: (
            (named.least, named.half),
            [(0, UF | NX), (0, UF | NX), (0, UF | NX), (named.least, UF | NX), (named.least, UF | NX)]))

    def test_far_below_the_least_number(self):
        self.by_modes_and_signs(MULTIPLY, lambda form, named: (
            (named.least, named.least),
            [(0, UF | NX), (0, UF | NX), (0, UF | NX), (named.least, UF | NX), (0, UF | NX)]))

    def test_odd_subnormal_tie(self):
        self.by_modes_and_signs(MULTIPLY, lambda form, named: (
            (3, named.half),
            [(2, UF | NX), (1, UF | NX), (1, UF | NX), (2, UF | NX), (2, UF | NX)]))

    def test_tiny_before_rounding_alone(self):
        # The product is 2^m less 2^(m - 2F): to the places of a normal number it rounds up to 2^m.
        self.by_modes_and_signs(MULTIPLY, lambda form, named: (
            (named.least_normal + 1, named.one - 2),
            [(named.least_normal, NX), (named.greatest_subnormal, UF | NX), (named.greatest_subnormal, UF | NX),
             (named.least_normal, NX), (named.least_normal, NX)]))

    def test_tiny_though_the_answer_is_the_least_normal_number(self):
        # The product 2^m less 2^(m - F - 1) has just the places of a normal number: it stays below 2^m.
        self.by_modes_and_signs(MULTIPLY, lambda form, named: (
            (named.least_normal, named.one - 1),
            [(named.least_normal, UF | NX), (named.greatest_subnormal, UF | NX),
             (named.greatest_subnormal, UF | NX), (named.least_normal, UF | NX),
             (named.least_normal, UF | NX)]))

    def test_inexact_just_above_the_least_normal_number(self):
        self.by_modes_and_signs(MULTIPLY, lambda form, named: (
            (named.least_normal + 1, named.above_one),
            [(named.least_normal + 2, NX), (named.least_normal + 2, NX), (named.least_normal + 2, NX),
             (named.least_normal + 3, NX), (named.least_normal + 2, NX)]))


class WrittenOut(Rounding):
    """A few answers in single, double and half, all bits written out."""

    def test_a_third(self):
        self.by_modes(SINGLE, 3, (0x3F800000, 0x40400000), [
            (0x3EAAAAAB, NX), (0x3EAAAAAA, NX), (0x3EAAAAAA, NX), (0x3EAAAAAB, NX), (0x3EAAAAAB, NX)])
        third = 0x3FD5555555555555
        self.by_modes(DOUBLE, 3, (0x3FF0000000000000, 0x4008000000000000), [
            (third, NX), (third, NX), (third, NX), (third + 1, NX), (third, NX)])
        self.by_modes(HALF, 3, (0x3C00, 0x4200), [
            (0x3555, NX), (0x3555, NX), (0x3555, NX), (0x3556, NX), (0x3555, NX)])

    def test_the_root_of_two(self):
        self.by_modes(SINGLE, 4, (0x40000000, 0), [
            (0x3FB504F3, NX), (0x3FB504F3, NX), (0x3FB504F3, NX), (0x3FB504F4, NX), (0x3FB504F3, NX)])
        root = 0x3FF6A09E667F3BCC
        self.by_modes(DOUBLE, 4, (0x4000000000000000, 0), [
            (root + 1, NX), (root, NX), (root, NX), (root + 1, NX), (root + 1, NX)])
        self.by_modes(HALF, 4, (0x4000, 0), [
            (0x3DA8, NX), (0x3DA8, NX), (0x3DA8, NX), (0x3DA9, NX), (0x3DA8, NX)])
