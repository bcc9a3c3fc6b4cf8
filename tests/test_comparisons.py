"""Comparisons and classes."""

import unittest

from tests.helper import DOUBLE, FORMS, HALF, NAMED, NV, SINGLE, class_of, compare

EQUAL, LESS, LESS_OR_EQUAL, QUIETLY_LESS, QUIETLY_LESS_OR_EQUAL = KINDS = range(5)


class Compared(unittest.TestCase):
    def rising(self, named):
        """Numbers each of which is less than the next."""
        sizes = [named.least, named.greatest_subnormal, named.least_normal, named.one,
                 named.above_one, named.two, named.greatest, named.infinity]
        return [named.minus(size) for size in reversed(sizes)] + [0] + sizes

    def test_less_equal_and_greater(self):
        for form in FORMS:
            numbers = self.rising(NAMED[form])
            for i, x in enumerate(numbers):
                for j, y in enumerate(numbers):
                    so = (i == j, i < j, i <= j, i < j, i <= j)
                    for kind in KINDS:
                        self.assertEqual(compare(form, kind, x, y), (int(so[kind]), 0), (form, kind, x, y))

    def test_zeros_are_equal(self):
        for form in FORMS:
            sign = NAMED[form].sign
            for x, y in ((0, sign), (sign, 0), (sign, sign)):
                self.assertEqual([compare(form, kind, x, y) for kind in KINDS],
                                 [(1, 0), (0, 0), (1, 0), (0, 0), (1, 0)])

    def test_quiet_nans(self):
        for form in FORMS:
            named = NAMED[form]
            for x, y in ((named.quiet, named.one), (named.minus(named.infinity), named.quiet),
                         (named.quiet, named.quiet), (named.minus(named.canonical), 0)):
                self.assertEqual([compare(form, kind, x, y) for kind in KINDS],
                                 [(0, 0), (0, NV), (0, NV), (0, 0), (0, 0)])

    def test_signaling_nans(self):
        for form in FORMS:
            named = NAMED[form]
            for x, y in ((named.signaling, named.one), (named.infinity, named.minus(named.signaling)),
                         (named.signaling, named.signaling), (named.quiet, named.signaling)):
                self.assertEqual([compare(form, kind, x, y) for kind in KINDS], [(0, NV)] * 5)

    def test_bits_above_the_width(self):
        self.assertEqual(compare(SINGLE, EQUAL, 0xFFFFFFFF3F800000, 0x3F800000), (1, 0))
        self.assertEqual(compare(HALF, LESS, 0xFFFF00003C00, 0x4000), (1, 0))
        self.assertEqual(compare(HALF, LESS, 0x7F813C00, 0x17F814000), (1, 0))


class Classes(unittest.TestCase):
    def test_each_class_in_each_format(self):
        for form in FORMS:
            named = NAMED[form]
            rows = [(named.infinity, 0, 7), (named.one, 1, 6), (named.greatest, 1, 6),
                    (named.least_normal, 1, 6), (named.greatest_subnormal, 2, 5), (named.least, 2, 5), (0, 3, 4),
                    (named.signaling, 8, 8), (named.canonical - 1, 8, 8), (named.canonical, 9, 9), (named.quiet, 9, 9),
                    (named.sign - 1, 9, 9)]
            for size, below, above in rows:
                with self.subTest(form=form, size=size):
                    self.assertEqual(class_of(form, named.minus(size)), 2**below)
                    self.assertEqual(class_of(form, size), 2**above)

    def test_bits_above_the_width(self):
        self.assertEqual(class_of(SINGLE, 0xFFFFFFFF00000000), 2**4)
        self.assertEqual(class_of(HALF, 0x7FF8000000008000), 2**3)
        self.assertEqual(class_of(HALF, 0xFFFFFFFFFFFF7C01), 2**8)
        self.assertEqual(class_of(DOUBLE, 0xFFFFFFFF00000000), 2**9)
