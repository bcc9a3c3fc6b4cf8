"""From a format to a format, to whole numbers and from them."""

import struct
import unittest

from tests.helper import DOUBLE, FORMS, HALF, MODES, NAMED, NV, NX, OF, SINGLE, UF
from tests.helper import convert, floating, sort_range, whole

INT8, UINT8, INT16, UINT16, INT32, UINT32, INT64, UINT64 = SORTS = range(8)
WITH_SIGN = (INT8, INT16, INT32, INT64)


def double(number):
    """The bits of a double that a whole number, or one with a half, is."""
    return struct.unpack("<Q", struct.pack("<d", number))[0]


class Converted(unittest.TestCase):
    def by_modes(self, source, goal, a, found):
        for mode in MODES:
            with self.subTest(source=source, goal=goal, mode=mode):
                self.assertEqual(convert(source, goal, mode, a), found[mode])

    def test_nans_infinities_zeros_and_ordinary_numbers(self):
        for source in FORMS:
            for goal in FORMS:
                old, new = NAMED[source], NAMED[goal]
                for a, bits, flags in [
                        (old.quiet, new.canonical, 0), (old.minus(old.quiet), new.canonical, 0),
                        (old.signaling, new.canonical, NV), (old.minus(old.signaling), new.canonical, NV),
                        (old.infinity, new.infinity, 0), (old.minus(old.infinity), new.minus(new.infinity), 0),
                        (0, 0, 0), (old.sign, new.sign, 0), (old.minus(old.three), new.minus(new.three), 0),
                        (old.half, new.half, 0)]:
                    self.by_modes(source, goal, a, [(bits, flags)] * 5)

    def test_to_the_same_format(self):
        for form in FORMS:
            named = NAMED[form]
            for size in (named.least, named.greatest_subnormal, named.least_normal, named.above_one, named.greatest):
                self.by_modes(form, form, size, [(size, 0)] * 5)
                self.by_modes(form, form, named.minus(size), [(named.minus(size), 0)] * 5)

    def test_subnormal_numbers_of_narrower_formats(self):
        self.by_modes(HALF, SINGLE, 0x0001, [(0x33800000, 0)] * 5)
        self.by_modes(HALF, DOUBLE, 0x83FF, [(0xBF0FF80000000000, 0)] * 5)
        self.by_modes(SINGLE, DOUBLE, 0x00000001, [(0x36A0000000000000, 0)] * 5)

    def test_overflow(self):
        for source, goal in ((DOUBLE, SINGLE), (DOUBLE, HALF), (SINGLE, HALF)):
            old, new = NAMED[source], NAMED[goal]
            infinite, finite = (new.infinity, OF | NX), (new.greatest, OF | NX)
            self.by_modes(source, goal, old.greatest, [infinite, finite, finite, infinite, infinite])
            infinite, finite = (new.minus(new.infinity), OF | NX), (new.minus(new.greatest), OF | NX)
            self.by_modes(source, goal, old.minus(old.greatest), [infinite, finite, infinite, finite, infinite])

    def test_ends_of_half(self):
        # 65519.99.. and 65520: the latter is midway from the greatest half to 2^16.
        self.by_modes(SINGLE, HALF, 0x477FEFFF, [
            (0x7BFF, NX), (0x7BFF, NX), (0x7BFF, NX), (0x7C00, OF | NX), (0x7BFF, NX)])
        self.by_modes(SINGLE, HALF, 0x477FF000, [
            (0x7C00, OF | NX), (0x7BFF, NX), (0x7BFF, NX), (0x7C00, OF | NX), (0x7C00, OF | NX)])

    def test_underflow(self):
        for source, goal in ((DOUBLE, SINGLE), (DOUBLE, HALF), (SINGLE, HALF)):
            old, new = NAMED[source], NAMED[goal]
            self.by_modes(source, goal, old.least, [
                (0, UF | NX), (0, UF | NX), (0, UF | NX), (new.least, UF | NX), (0, UF | NX)])
            self.by_modes(source, goal, old.minus(old.least), [
                (new.sign, UF | NX), (new.sign, UF | NX), (new.minus(new.least), UF | NX),
                (new.sign, UF | NX), (new.sign, UF | NX)])

    def test_tiny_numbers_about_the_least_normal_half(self):
        # 2^-14 less 2^-25, less 2^-26 and less 2^-38: the first has just the places of a half.
        self.by_modes(DOUBLE, HALF, 0x3F0FFC0000000000, [
            (0x0400, UF | NX), (0x03FF, UF | NX), (0x03FF, UF | NX), (0x0400, UF | NX), (0x0400, UF | NX)])
        self.by_modes(DOUBLE, HALF, 0x3F0FFE0000000000, [
            (0x0400, NX), (0x03FF, UF | NX), (0x03FF, UF | NX), (0x0400, NX), (0x0400, NX)])
        self.by_modes(SINGLE, HALF, 0x387FFFFF, [
            (0x0400, NX), (0x03FF, UF | NX), (0x03FF, UF | NX), (0x0400, NX), (0x0400, NX)])

    def test_bits_above_the_width(self):
        self.assertEqual(convert(HALF, DOUBLE, 0, 0xFFFFFFFFFFFF3C00), (0x3FF0000000000000, 0))
        self.assertEqual(convert(SINGLE, HALF, 0, 0x7FF000003F800000), (0x3C00, 0))
        self.assertEqual(convert(SINGLE, SINGLE, 0, 0xFFFFFFFF3F800000), (0x3F800000, 0))


class ToWhole(unittest.TestCase):
    def test_infinities_and_nans(self):
        for form in FORMS:
            named = NAMED[form]
            for sort in SORTS:
                least, greatest = sort_range(sort)
                for mode in MODES:
                    for a in (named.infinity, named.quiet, named.minus(named.quiet), named.signaling,
                              named.minus(named.signaling)):
                        self.assertEqual(whole(form, sort, mode, a), (greatest, NV))
                    self.assertEqual(whole(form, sort, mode, named.minus(named.infinity)), (least % 2**64, NV))

    def test_exact_numbers_in_the_range(self):
        for form in FORMS:
            named = NAMED[form]
            for sort in SORTS:
                for mode in MODES:
                    self.assertEqual(whole(form, sort, mode, named.three), (3, 0))
                    self.assertEqual(whole(form, sort, mode, 0), (0, 0))
                    self.assertEqual(whole(form, sort, mode, named.sign), (0, 0))
                    below = (2**64 - 3, 0) if sort in WITH_SIGN else (0, NV)
                    self.assertEqual(whole(form, sort, mode, named.minus(named.three)), below)

    def test_modes(self):
        # 2.5 and -2.5, 0.5 and -0.5.
        for form, a in ((SINGLE, 0x40200000), (DOUBLE, 0x4004000000000000), (HALF, 0x4100)):
            named = NAMED[form]
            for mode, up, down in ((0, 2, 2), (1, 2, 2), (2, 2, 3), (3, 3, 2), (4, 3, 3)):
                for sort in SORTS:
                    self.assertEqual(whole(form, sort, mode, a), (up, NX))
                    below = (2**64 - down, NX) if sort in WITH_SIGN else (0, NV)
                    self.assertEqual(whole(form, sort, mode, named.minus(a)), below)
            for mode, up, down in ((0, 0, 0), (1, 0, 0), (2, 0, 1), (3, 1, 0), (4, 1, 1)):
                for sort in SORTS:
                    self.assertEqual(whole(form, sort, mode, named.half), (up, NX))
                    below = (-down % 2**64, NX) if sort in WITH_SIGN or down == 0 else (0, NV)
                    self.assertEqual(whole(form, sort, mode, named.minus(named.half)), below)

    def test_the_least_trace_of_a_number(self):
        for form in FORMS:
            named = NAMED[form]
            for sort in SORTS:
                for mode in MODES:
                    self.assertEqual(whole(form, sort, mode, named.least), (1 if mode == 3 else 0, NX))
                    found = (0, NX)
                    if mode == 2:
                        found = (2**64 - 1, NX) if sort in WITH_SIGN else (0, NV)
                    self.assertEqual(whole(form, sort, mode, named.minus(named.least)), found)

    def test_ends_of_the_narrower_sorts_and_beyond_them(self):
        for sort in (INT8, UINT8, INT16, UINT16, INT32, UINT32):
            least, greatest = sort_range(sort)
            for end, step in ((least, -1), (greatest, 1)):
                at_end, at_half, beyond = double(end), double(end + step / 2), double(end + step)
                inside = {-1: (1, 3), 1: (1, 2)}[step]
                for mode in MODES:
                    self.assertEqual(whole(DOUBLE, sort, mode, at_end), (end % 2**64, 0))
                    self.assertEqual(whole(DOUBLE, sort, mode, beyond), (end % 2**64, NV))
                    # To the even one of both: beyond the range, but from an even least number.
                    stays = mode in inside or (mode == 0 and end % 2 == 0)
                    self.assertEqual(whole(DOUBLE, sort, mode, at_half), (end % 2**64, NX if stays else NV))

    def test_ends_of_the_sorts_of_64_bits(self):
        below = 2**63 - 2**10
        for mode in MODES:
            self.assertEqual(whole(DOUBLE, INT64, mode, 0x43DFFFFFFFFFFFFF), (below, 0))
            self.assertEqual(whole(DOUBLE, INT64, mode, 0x43E0000000000000), (2**63 - 1, NV))
            self.assertEqual(whole(DOUBLE, INT64, mode, 0xC3E0000000000000), (2**63, 0))
            self.assertEqual(whole(DOUBLE, INT64, mode, 0xC3E0000000000001), (2**63, NV))
            self.assertEqual(whole(DOUBLE, UINT64, mode, 0x43E0000000000000), (2**63, 0))
            self.assertEqual(whole(DOUBLE, UINT64, mode, 0x43EFFFFFFFFFFFFF), (2**64 - 2**11, 0))
            self.assertEqual(whole(DOUBLE, UINT64, mode, 0x43F0000000000000), (2**64 - 1, NV))
            self.assertEqual(whole(SINGLE, INT64, mode, 0x5EFFFFFF), (2**63 - 2**39, 0))
            self.assertEqual(whole(SINGLE, INT64, mode, 0x5F000000), (2**63 - 1, NV))
            self.assertEqual(whole(SINGLE, INT64, mode, 0xDF000000), (2**63, 0))
            self.assertEqual(whole(SINGLE, UINT64, mode, 0x5F800000), (2**64 - 1, NV))

    def test_the_greatest_numbers(self):
        for sort in SORTS:
            least, greatest = sort_range(sort)
            for form in (SINGLE, DOUBLE):
                named = NAMED[form]
                self.assertEqual(whole(form, sort, 1, named.greatest), (greatest, NV))
                self.assertEqual(whole(form, sort, 1, named.minus(named.greatest)), (least % 2**64, NV))
        self.assertEqual(whole(HALF, INT16, 0, 0x7BFF), (2**15 - 1, NV))
        self.assertEqual(whole(HALF, UINT16, 0, 0x7BFF), (65504, 0))
        self.assertEqual(whole(HALF, INT32, 0, 0xFBFF), (2**64 - 65504, 0))

    def test_bits_above_the_width(self):
        self.assertEqual(whole(HALF, UINT8, 0, 0xFFFFFFFFFFFF3C00), (1, 0))
        self.assertEqual(whole(SINGLE, INT64, 0, 0x80000000C0000000), (2**64 - 2, 0))


class FromWhole(unittest.TestCase):
    def test_zero_is_positive(self):
        for form in FORMS:
            for sort in SORTS:
                for mode in MODES:
                    self.assertEqual(floating(form, sort, mode, 0), (0, 0))

    def test_low_bits_alone_count(self):
        for form in FORMS:
            named = NAMED[form]
            for sort, width in zip(SORTS, (8, 8, 16, 16, 32, 32, 64, 64)):
                above = (2**64 - 1) >> width << width
                self.assertEqual(floating(form, sort, 0, 3 | above), (named.three, 0))
                self.assertEqual(floating(form, sort, 0, above), (0, 0))
                if sort in WITH_SIGN:
                    self.assertEqual(floating(form, sort, 0, 2**width - 3), (named.minus(named.three), 0))

    def test_ends_of_the_sorts(self):
        for sort in SORTS:
            least, greatest = sort_range(sort)
            power = float(greatest + 1)
            self.assertEqual(floating(DOUBLE, sort, 0, least % 2**64), (double(least) if least else 0, 0))
            if sort < INT64:
                for mode in MODES:
                    self.assertEqual(floating(DOUBLE, sort, mode, greatest), (double(greatest), 0))
                continue
            for mode, step in zip(MODES, (0, 1, 1, 0, 0)):
                self.assertEqual(floating(DOUBLE, sort, mode, greatest), (double(power) - step, NX))

    def test_rounding(self):
        for v, found in ((2**24 + 1, (0, 0, 0, 1, 1)), (2**24 + 3, (2, 1, 1, 2, 2))):
            for mode in MODES:
                self.assertEqual(floating(SINGLE, INT32, mode, v), (0x4B800000 + found[mode], NX))
                turned = {2: 3, 3: 2}.get(mode, mode)
                self.assertEqual(floating(SINGLE, INT32, turned, 2**32 - v), (0xCB800000 + found[mode], NX))
        for v, found in ((2**53 + 1, (0, 0, 0, 1, 1)), (2**53 + 3, (2, 1, 1, 2, 2))):
            for mode in MODES:
                self.assertEqual(floating(DOUBLE, UINT64, mode, v), (0x4340000000000000 + found[mode], NX))

    def test_overflow_of_halves(self):
        infinite, finite = (0x7C00, OF | NX), (0x7BFF, OF | NX)
        for mode, found in zip(MODES, (infinite, finite, finite, infinite, infinite)):
            self.assertEqual(floating(HALF, UINT64, mode, 2**64 - 1), found)
            self.assertEqual(floating(HALF, INT32, mode, 65536), found)
        self.assertEqual(floating(HALF, UINT16, 0, 65519), (0x7BFF, NX))
        self.assertEqual(floating(HALF, UINT16, 0, 65520), infinite)
        self.assertEqual(floating(HALF, UINT16, 1, 65535), (0x7BFF, NX))
        self.assertEqual(floating(HALF, INT64, 2, 2**63), (0xFC00, OF | NX))
        self.assertEqual(floating(HALF, INT64, 3, 2**63), (0xFBFF, OF | NX))
