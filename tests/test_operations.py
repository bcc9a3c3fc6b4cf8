"""The operations 0 to 15, where the document names a case of its own."""

import unittest

from tests.helper import DOUBLE, DZ, FORMS, HALF, MODES, NAMED, NV, NX, OF, SINGLE, UF, WIDTH, op

ADD, SUBTRACT, MULTIPLY, DIVIDE, ROOT = range(5)
FUSED = (5, 6, 7, 8)
LEAST, GREATEST = 9, 10
WITH_SIGN, WITH_OTHER_SIGN, SIGN_TURNED = 11, 12, 13
WHOLE, WHOLE_EXACT = 14, 15
TWO_NUMBERS = (ADD, SUBTRACT, MULTIPLY, DIVIDE)

# 2.5, and the square of the last place of 1, in each format.
TWO_AND_A_HALF = (0x40200000, 0x4004000000000000, 0x4100)
SQUARED_PLACE = (0x28800000, 0x3970000000000000, 0x0010)


class Operation(unittest.TestCase):
    def everywhere(self, choose):
        """choose: from a format's names to rows of operation, operands, bits, flags; by any mode."""
        for form in FORMS:
            for operation, operands, bits, flags in choose(NAMED[form]):
                for mode in MODES:
                    with self.subTest(form=form, operation=operation, mode=mode):
                        self.assertEqual(op(form, operation, mode, *operands), (bits, flags))

    def zero_sums(self, operation, operands_by_form):
        """An exact sum 0 that is not told by its zeros' signs: -0 by mode 2 alone."""
        for form in FORMS:
            for operands in operands_by_form(NAMED[form]):
                for mode in MODES:
                    with self.subTest(form=form, operation=operation, mode=mode):
                        zero = NAMED[form].sign if mode == 2 else 0
                        self.assertEqual(op(form, operation, mode, *operands), (zero, 0))


class Nans(Operation):
    def test_quiet_nans_raise_nothing(self):
        self.everywhere(lambda named: [
            (operation, operands, named.canonical, 0)
            for operation in TWO_NUMBERS
            for operands in [(named.quiet, named.one), (named.one, named.minus(named.quiet)),
                             (named.quiet, named.infinity), (0, named.quiet)]])

    def test_signaling_nans_raise_nv(self):
        self.everywhere(lambda named: [
            (operation, operands, named.canonical, NV)
            for operation in TWO_NUMBERS
            for operands in [(named.signaling, named.one), (named.one, named.minus(named.signaling)),
                             (named.quiet, named.signaling), (named.signaling, named.quiet)]])

    def test_nans_where_one_operand_is_looked_at(self):
        self.everywhere(lambda named: [
            (operation, operands, named.canonical, flags)
            for operation in (ROOT, WHOLE, WHOLE_EXACT)
            for operands, flags in [((named.quiet,), 0), ((named.minus(named.quiet),), 0),
                                    ((named.signaling,), NV), ((named.minus(named.signaling),), NV)]])

    def test_operands_that_are_not_looked_at_do_not_count(self):
        self.everywhere(lambda named: [
            (operation, (named.one, named.signaling, named.signaling), named.one, 0)
            for operation in (ROOT, WHOLE, WHOLE_EXACT)])
        self.everywhere(lambda named: [
            (ADD, (named.one, named.one, named.signaling), named.two, 0),
            (LEAST, (named.one, named.two, named.signaling), named.one, 0),
            (WITH_SIGN, (named.one, named.two, named.signaling), named.one, 0)])

    def test_nans_of_fused_operations(self):
        self.everywhere(lambda named: [
            (operation, operands, named.canonical, flags)
            for operation in FUSED
            for operands, flags in [
                ((named.quiet, named.one, named.two), 0), ((named.one, named.quiet, named.two), 0),
                ((named.one, named.two, named.quiet), 0), ((named.one, named.two, named.signaling), NV),
                ((named.signaling, named.two, named.quiet), NV), ((named.one, named.signaling, 0), NV)]])


class SumsAndDifferences(Operation):
    def test_infinities(self):
        self.everywhere(lambda named: [
            (ADD, (named.infinity, named.minus(named.infinity)), named.canonical, NV),
            (ADD, (named.minus(named.infinity), named.infinity), named.canonical, NV),
            (ADD, (named.infinity, named.infinity), named.infinity, 0),
            (ADD, (named.minus(named.greatest), named.infinity), named.infinity, 0),
            (ADD, (named.minus(named.infinity), named.greatest), named.minus(named.infinity), 0),
            (SUBTRACT, (named.infinity, named.infinity), named.canonical, NV),
            (SUBTRACT, (named.minus(named.infinity), named.minus(named.infinity)), named.canonical, NV),
            (SUBTRACT, (named.infinity, named.minus(named.infinity)), named.infinity, 0),
            (SUBTRACT, (named.greatest, named.infinity), named.minus(named.infinity), 0),
            (SUBTRACT, (0, named.minus(named.infinity)), named.infinity, 0)])

    def test_zeros_of_one_sign(self):
        self.everywhere(lambda named: [
            (ADD, (0, 0), 0, 0),
            (ADD, (named.sign, named.sign), named.sign, 0),
            (SUBTRACT, (0, named.sign), 0, 0),
            (SUBTRACT, (named.sign, 0), named.sign, 0)])

    def test_other_sums_zero(self):
        self.zero_sums(ADD, lambda named: [
            (0, named.sign), (named.sign, 0), (named.one, named.minus(named.one)),
            (named.minus(named.least), named.least)])
        self.zero_sums(SUBTRACT, lambda named: [
            (0, 0), (named.sign, named.sign), (named.greatest, named.greatest),
            (named.minus(named.one), named.minus(named.one))])

    def test_a_zero_added_changes_nothing(self):
        self.everywhere(lambda named: [
            (ADD, (named.least, named.sign), named.least, 0),
            (SUBTRACT, (0, named.one), named.minus(named.one), 0)])


class Products(Operation):
    def test_infinity_times_zero(self):
        self.everywhere(lambda named: [
            (MULTIPLY, operands, named.canonical, NV)
            for operands in [(named.infinity, 0), (0, named.infinity),
                             (named.minus(named.infinity), 0), (named.sign, named.infinity)]])

    def test_signs(self):
        self.everywhere(lambda named: [
            (MULTIPLY, (named.infinity, named.minus(named.least)), named.minus(named.infinity), 0),
            (MULTIPLY, (named.minus(named.infinity), named.minus(named.infinity)), named.infinity, 0),
            (MULTIPLY, (0, named.minus(named.one)), named.sign, 0),
            (MULTIPLY, (named.sign, named.minus(named.one)), 0, 0),
            (MULTIPLY, (named.sign, 0), named.sign, 0),
            (MULTIPLY, (named.minus(named.one), named.three), named.minus(named.three), 0)])


class Quotients(Operation):
    def test_without_a_value(self):
        self.everywhere(lambda named: [
            (DIVIDE, operands, named.canonical, NV)
            for operands in [(0, 0), (named.sign, 0), (named.infinity, named.minus(named.infinity)),
                             (named.infinity, named.infinity)]])

    def test_by_zero(self):
        self.everywhere(lambda named: [
            (DIVIDE, (named.one, 0), named.infinity, DZ),
            (DIVIDE, (named.least, named.sign), named.minus(named.infinity), DZ),
            (DIVIDE, (named.minus(named.greatest), named.sign), named.infinity, DZ),
            (DIVIDE, (named.infinity, 0), named.infinity, 0),
            (DIVIDE, (named.infinity, named.sign), named.minus(named.infinity), 0)])

    def test_of_infinities_and_zeros(self):
        self.everywhere(lambda named: [
            (DIVIDE, (named.minus(named.infinity), named.two), named.minus(named.infinity), 0),
            (DIVIDE, (named.two, named.minus(named.infinity)), named.sign, 0),
            (DIVIDE, (0, named.infinity), 0, 0),
            (DIVIDE, (named.sign, named.minus(named.three)), 0, 0),
            (DIVIDE, (0, named.minus(named.three)), named.sign, 0)])

    def test_ordinary(self):
        self.everywhere(lambda named: [
            (DIVIDE, (named.one, named.two), named.half, 0),
            (DIVIDE, (named.minus(named.greatest), named.greatest), named.minus(named.one), 0),
            (DIVIDE, (named.least, named.least), named.one, 0)])

    def test_overflow_and_underflow(self):
        for form in FORMS:
            named = NAMED[form]
            self.assertEqual(op(form, DIVIDE, 0, named.greatest, named.half), (named.infinity, OF | NX))
            self.assertEqual(op(form, DIVIDE, 0, named.least, named.two), (0, UF | NX))
            self.assertEqual(op(form, DIVIDE, 3, named.least, named.greatest), (named.least, UF | NX))


class Roots(Operation):
    def test_named_cases(self):
        self.everywhere(lambda named: [
            (ROOT, (0,), 0, 0),
            (ROOT, (named.sign,), named.sign, 0),
            (ROOT, (named.infinity,), named.infinity, 0),
            (ROOT, (named.minus(named.infinity),), named.canonical, NV),
            (ROOT, (named.minus(named.least),), named.canonical, NV),
            (ROOT, (named.minus(named.one),), named.canonical, NV),
            (ROOT, (named.one,), named.one, 0)])

    def test_exact_and_inexact(self):
        for form, nine, three in ((SINGLE, 0x41100000, 0x40400000),
                                  (DOUBLE, 0x4022000000000000, 0x4008000000000000), (HALF, 0x4880, 0x4200)):
            for mode in MODES:
                self.assertEqual(op(form, ROOT, mode, nine), (three, 0))
                self.assertEqual(op(form, ROOT, mode, three)[1], NX)

    def test_of_subnormal_numbers(self):
        # 2^-149 has an odd power, 2^-1074 and 2^-24 have even ones.
        self.assertEqual(op(SINGLE, ROOT, 0, 1), (0x1A3504F3, NX))
        self.assertEqual(op(DOUBLE, ROOT, 0, 1), (0x1E60000000000000, 0))
        self.assertEqual(op(HALF, ROOT, 0, 1), (0x0C00, 0))


class Fused(Operation):
    def test_signs_of_the_four(self):
        # 1 times 3, and 2.
        for form, five in ((SINGLE, 0x40A00000), (DOUBLE, 0x4014000000000000), (HALF, 0x4500)):
            named = NAMED[form]
            found = {5: five, 6: named.one, 7: named.minus(named.one), 8: named.minus(five)}
            for operation in FUSED:
                for mode in MODES:
                    self.assertEqual(op(form, operation, mode, named.one, named.three, named.two),
                                     (found[operation], 0))

    def test_product_alone_would_overflow(self):
        self.everywhere(lambda named: [
            (5, (named.greatest, named.two, named.minus(named.greatest)), named.greatest, 0),
            (6, (named.greatest, named.two, named.greatest), named.greatest, 0),
            (7, (named.greatest, named.two, named.greatest), named.minus(named.greatest), 0),
            (8, (named.greatest, named.two, named.minus(named.greatest)), named.minus(named.greatest), 0)])

    def test_product_alone_would_underflow(self):
        for form in FORMS:
            named = NAMED[form]
            for mode, bits in ((0, named.one), (1, named.one), (2, named.one), (3, named.above_one), (4, named.one)):
                self.assertEqual(op(form, 5, mode, named.least, named.least, named.one), (bits, NX))
            for mode in (1, 2):
                self.assertEqual(op(form, 7, mode, named.least, named.least, named.one),
                                 (named.one - 1, NX))
            for mode in (0, 3, 4):
                self.assertEqual(op(form, 7, mode, named.least, named.least, named.one), (named.one, NX))

    def test_product_alone_would_be_inexact(self):
        for form in FORMS:
            named = NAMED[form]
            for mode in MODES:
                self.assertEqual(
                    op(form, 6, mode, named.above_one, named.above_one, named.above_one + 1),
                    (SQUARED_PLACE[form], 0))

    def test_overflow_and_underflow_of_the_sum(self):
        for form in FORMS:
            named = NAMED[form]
            self.assertEqual(op(form, 5, 0, named.greatest, named.one, named.greatest), (named.infinity, OF | NX))
            self.assertEqual(op(form, 5, 1, named.greatest, named.one, named.greatest), (named.greatest, OF | NX))
            self.assertEqual(op(form, 8, 0, named.greatest, named.one, named.greatest),
                             (named.minus(named.infinity), OF | NX))
            self.assertEqual(op(form, 5, 0, named.least, named.half, named.least), (2, UF | NX))
            self.assertEqual(op(form, 5, 1, named.least, named.half, named.least), (1, UF | NX))

    def test_infinity_times_zero(self):
        self.everywhere(lambda named: [
            (operation, (a, b, c), named.canonical, NV)
            for operation in FUSED
            for a, b in [(named.infinity, 0), (named.sign, named.infinity), (0, named.minus(named.infinity))]
            for c in (named.one, named.infinity, named.quiet, named.minus(named.quiet), named.signaling)])

    def test_infinite_products_and_addends(self):
        self.everywhere(lambda named: [
            (5, (named.infinity, named.one, named.minus(named.infinity)), named.canonical, NV),
            (6, (named.infinity, named.one, named.infinity), named.canonical, NV),
            (7, (named.infinity, named.one, named.infinity), named.canonical, NV),
            (8, (named.infinity, named.one, named.minus(named.infinity)), named.canonical, NV),
            (5, (named.one, named.infinity, named.infinity), named.infinity, 0),
            (7, (named.one, named.infinity, named.one), named.minus(named.infinity), 0),
            (8, (named.one, named.minus(named.infinity), named.one), named.infinity, 0),
            (5, (named.greatest, named.greatest, named.minus(named.infinity)), named.minus(named.infinity), 0),
            (6, (named.greatest, named.greatest, named.infinity), named.minus(named.infinity), 0),
            (7, (named.greatest, named.greatest, named.infinity), named.infinity, 0)])

    def test_zeros_of_one_sign(self):
        self.everywhere(lambda named: [
            (5, (0, named.one, 0), 0, 0),
            (5, (named.sign, named.one, named.sign), named.sign, 0),
            (6, (0, named.one, named.sign), 0, 0),
            (7, (0, named.one, named.sign), named.sign, 0),
            (8, (0, 0, 0), named.sign, 0)])

    def test_other_sums_zero(self):
        self.zero_sums(5, lambda named: [
            (0, named.one, named.sign), (named.one, named.three, named.minus(named.three)),
            (named.minus(named.one), 0, 0)])
        self.zero_sums(6, lambda named: [(0, named.one, 0), (named.one, named.two, named.two)])
        self.zero_sums(7, lambda named: [(0, named.one, 0), (named.one, named.two, named.two)])
        self.zero_sums(8, lambda named: [(0, named.one, named.sign),
                                         (named.one, named.two, named.minus(named.two))])


class LeastAndGreatest(Operation):
    def test_numbers(self):
        self.everywhere(lambda named: [
            row for x, y in [(named.one, named.two), (named.minus(named.one), named.one),
                             (named.minus(named.two), named.minus(named.one)), (named.sign, 0),
                             (named.greatest, named.infinity), (named.minus(named.infinity), 0),
                             (named.minus(named.least), named.sign), (0, named.least)]
            for row in [(LEAST, (x, y), x, 0), (LEAST, (y, x), x, 0),
                        (GREATEST, (x, y), y, 0), (GREATEST, (y, x), y, 0)]])

    def test_nans(self):
        self.everywhere(lambda named: [
            (operation, operands, bits, flags)
            for operation in (LEAST, GREATEST)
            for operands, bits, flags in [
                ((named.quiet, named.one), named.one, 0),
                ((named.minus(named.infinity), named.quiet), named.minus(named.infinity), 0),
                ((named.signaling, named.one), named.one, NV),
                ((named.sign, named.signaling), named.sign, NV),
                ((named.quiet, named.minus(named.quiet)), named.canonical, 0),
                ((named.quiet, named.signaling), named.canonical, NV),
                ((named.signaling, named.signaling), named.canonical, NV)]])


class Signs(Operation):
    def test_each(self):
        self.everywhere(lambda named: [
            row for size in (0, named.one, named.greatest, named.infinity, named.quiet, named.signaling)
            for row in [
                (WITH_SIGN, (size, named.one), size, 0),
                (WITH_SIGN, (size, named.minus(named.quiet)), named.minus(size), 0),
                (WITH_SIGN, (named.minus(size), named.signaling), size, 0),
                (WITH_OTHER_SIGN, (size, named.one), named.minus(size), 0),
                (WITH_OTHER_SIGN, (named.minus(size), named.sign), size, 0),
                (SIGN_TURNED, (size, named.sign), named.minus(size), 0),
                (SIGN_TURNED, (named.minus(size), named.sign), size, 0),
                (SIGN_TURNED, (named.minus(size), named.one), named.minus(size), 0)]])


class Whole(Operation):
    def test_infinities_and_zeros(self):
        self.everywhere(lambda named: [
            (operation, (a,), a, 0) for operation in (WHOLE, WHOLE_EXACT)
            for a in (0, named.sign, named.infinity, named.minus(named.infinity), named.greatest,
                      named.minus(named.three))])

    def test_two_and_a_half(self):
        for form in FORMS:
            named = NAMED[form]
            a = TWO_AND_A_HALF[form]
            sizes = (named.two, named.two, named.two, named.three, named.three)
            for mode in MODES:
                self.assertEqual(op(form, WHOLE, mode, a), (sizes[mode], 0))
                self.assertEqual(op(form, WHOLE_EXACT, mode, a), (sizes[mode], NX))
            sizes = (named.two, named.two, named.three, named.two, named.three)
            for mode in MODES:
                self.assertEqual(op(form, WHOLE, mode, named.minus(a)), (named.minus(sizes[mode]), 0))
                self.assertEqual(op(form, WHOLE_EXACT, mode, named.minus(a)), (named.minus(sizes[mode]), NX))

    def test_below_one(self):
        for form in FORMS:
            named = NAMED[form]
            for a, sizes in ((named.half, (0, 0, 0, named.one, named.one)),
                             (named.least, (0, 0, 0, named.one, 0)),
                             (named.one - 1, (named.one, 0, 0, named.one, named.one))):
                for mode in MODES:
                    self.assertEqual(op(form, WHOLE, mode, a), (sizes[mode], 0))
                    self.assertEqual(op(form, WHOLE_EXACT, mode, a), (sizes[mode], NX))
                    turned = {2: 3, 3: 2}.get(mode, mode)
                    self.assertEqual(op(form, WHOLE_EXACT, turned, named.minus(a)), (named.minus(sizes[mode]), NX))


class BitsAbove(Operation):
    """Bits above the format's width don't count, and none are answered."""

    def test_every_operation(self):
        for form in (SINGLE, HALF):
            named = NAMED[form]
            above = 2**64 - 2**WIDTH[form]
            odd = 0xA5A5A5A500000000 if form == SINGLE else 0xA5A5A5A5A5A50000
            for operation in range(16):
                for a, b, c in [(named.three, named.two, named.one), (named.minus(named.one), named.sign, 0),
                                (named.quiet, named.one, named.one), (named.infinity, 0, named.one),
                                (0, named.signaling, named.least), (named.two, named.infinity, named.quiet)]:
                    plain = op(form, operation, 0, a, b, c)
                    self.assertLess(plain[0], 2**WIDTH[form])
                    self.assertEqual(op(form, operation, 0, a | above, b | odd, c | above), plain)
                    self.assertEqual(op(form, operation, 0, a | odd, b | above, c), plain)

    def test_written_out(self):
        self.assertEqual(op(HALF, ADD, 0, 0xFFFF3C00, 0x123400003C00), (0x4000, 0))
        self.assertEqual(op(SINGLE, LEAST, 0, 0x13F800000, 0x240000000), (0x3F800000, 0))
        self.assertEqual(op(SINGLE, WITH_SIGN, 0, 0xFFFFFFFF3F800000, 0), (0x3F800000, 0))
