"""All answers of numbers, held against exact arithmetic of the tests' own."""

import unittest
from itertools import product

from tests.helper import EXPONENT, FORMS, FRACTION, HALF, MODES, NAMED
from tests.helper import Drawn, differences, exact_op, sort_range

ONE_OPERAND = (4, 14, 15)
TWO_OPERANDS = (0, 1, 2, 3, 9, 10, 11, 12, 13)
FUSED = (5, 6, 7, 8)


class Exactly(unittest.TestCase):
    def hold(self, calls):
        for call, answer, exact in differences(calls):
            self.fail("%s answers %s, exactly it is %s" % (call, answer, exact))


class AtSpecialNumbers(Exactly):
    def test_operations_of_one_operand(self):
        for form in FORMS:
            self.hold([[0, form, operation, mode, a, NAMED[form].signaling, NAMED[form].signaling]
                       for operation in ONE_OPERAND for mode in MODES for a in NAMED[form].specials()])

    def test_operations_of_two_operands(self):
        for form in FORMS:
            specials = NAMED[form].specials()
            self.hold([[0, form, operation, mode, a, b, NAMED[form].signaling]
                       for operation in TWO_OPERANDS for mode in MODES
                       for a, b in product(specials, repeat=2)])

    def test_fused_operations(self):
        for form in FORMS:
            named = NAMED[form]
            sizes = (0, named.least, named.least_normal, named.one, named.greatest,
                     named.infinity, named.signaling, named.quiet)
            some = [size | sign for size in sizes for sign in (0, named.sign)]
            firsts = [0, named.least, named.minus(named.above_one), named.greatest, named.infinity,
                      named.signaling, named.quiet, named.minus(named.greatest_subnormal)]
            self.hold([[0, form, operation, mode, a, b, c] for operation in FUSED for mode in MODES
                       for a, b, c in product(firsts, some, some)])

    def test_comparisons(self):
        for form in FORMS:
            self.hold([[1, form, kind, a, b] for kind in range(5)
                       for a, b in product(NAMED[form].specials(), repeat=2)])

    def test_conversions(self):
        for source, goal in product(FORMS, repeat=2):
            self.hold([[3, source, goal, mode, a] for mode in MODES for a in NAMED[source].specials()])

    def test_whole_numbers(self):
        for form in FORMS:
            self.hold([[4, form, sort, mode, a] for sort in range(8) for mode in MODES
                       for a in NAMED[form].specials()])

    def test_every_half(self):
        for mode in MODES:
            self.hold([[0, HALF, operation, mode, a, 0, 0] for operation in (4, 15) for a in range(mode, 65536, 5)])
        self.hold([[3, HALF, goal, 0, a] for goal in FORMS for a in range(0, 65536, 3)])

    def test_whole_numbers_at_the_ends_of_their_sorts(self):
        ends = [end + step for sort in range(8) for end in sort_range(sort) for step in range(-2, 3)]
        self.hold([[5, form, sort, mode, end % 2**64] for form in FORMS for sort in range(8)
                   for mode in MODES for end in ends])


class AtDrawnNumbers(Exactly):
    def test_operations_of_one_operand(self):
        for form in FORMS:
            drawn = Drawn(10 + form)
            self.hold([[0, form, operation, mode, drawn.operand(form), drawn.operand(form), drawn.operand(form)]
                       for operation in ONE_OPERAND for mode in MODES for count in range(300)])

    def test_operations_of_two_operands(self):
        for form in FORMS:
            drawn = Drawn(20 + form)
            calls = []
            for operation, mode, count in product(TWO_OPERANDS, MODES, range(250)):
                a = drawn.operand(form)
                b = drawn.near(form, a) if count % 2 else drawn.operand(form)
                calls.append([0, form, operation, mode, a, b, drawn.operand(form)])
            self.hold(calls)

    def test_fused_operations(self):
        for form in FORMS:
            drawn = Drawn(30 + form)
            calls = []
            for operation, mode, count in product(FUSED, MODES, range(300)):
                a, b = drawn.operand(form), drawn.operand(form)
                c = drawn.third(form, a, b) if count % 4 else drawn.operand(form)
                calls.append([0, form, operation, mode, a, b, c])
            self.hold(calls)

    def test_products_about_the_least_normal_number(self):
        for form in FORMS:
            drawn = Drawn(40 + form)
            calls = []
            for operation, mode, count in product((2, 5, 8), MODES, range(250)):
                a, b = drawn.tiny_pair(form)
                calls.append([0, form, operation, mode, a, b, drawn.put(form, 0) if count % 2 else 0])
            self.hold(calls)

    def test_quotients_about_the_least_normal_number(self):
        for form in FORMS:
            drawn = Drawn(50 + form)
            calls = []
            for mode, count in product(MODES, range(400)):
                a = drawn.put(form, drawn.draw.randrange(FRACTION[form]))
                b = drawn.near(form, NAMED[form].one)
                calls.append([0, form, 3, mode, a, b, 0])
            self.hold(calls)

    def test_roots_of_squares_and_of_their_neighbours(self):
        for form in FORMS:
            drawn = Drawn(60 + form)
            squares = []
            for count in range(100):
                a = drawn.put(form, (1 << EXPONENT[form] - 1) - 1) & NAMED[form].sign - 1
                a = a >> (FRACTION[form] // 2 + 1) << (FRACTION[form] // 2 + 1)
                squares.append([0, form, 2, 0, a, a, 0])
            self.hold(squares)
            self.hold([[0, form, 4, mode, exact_op(*call[1:])[0] + step, 0, 0]
                       for call in squares for mode in MODES for step in (-1, 0, 1)])

    def test_comparisons(self):
        for form in FORMS:
            drawn = Drawn(70 + form)
            calls = []
            for kind, count in product(range(5), range(500)):
                a = drawn.operand(form)
                b = (drawn.operand(form), drawn.near(form, a), a, a ^ NAMED[form].sign)[count % 4]
                calls.append([1, form, kind, a, b])
            self.hold(calls)

    def test_conversions(self):
        for source, goal in product(FORMS, repeat=2):
            drawn = Drawn(80 + 3 * source + goal)
            shift = ((1 << EXPONENT[source] - 1) - 1) - ((1 << EXPONENT[goal] - 1) - 1)
            calls = []
            for mode, count in product(MODES, range(500)):
                a = drawn.operand(source)
                if shift > 0 and count % 2:
                    a = drawn.put(source, drawn.draw.randint(shift - FRACTION[goal] - 3, shift + 2))
                calls.append([3, source, goal, mode, a])
            self.hold(calls)

    def test_to_whole_numbers(self):
        for form in FORMS:
            drawn = Drawn(90 + form)
            bias = (1 << EXPONENT[form] - 1) - 1
            calls = []
            for sort, mode, count in product(range(8), MODES, range(150)):
                a = drawn.operand(form)
                if count % 3:
                    a = drawn.put(form, min(2 * bias, bias + drawn.draw.randint(-3, 66)))
                calls.append([4, form, sort, mode, a])
            self.hold(calls)

    def test_from_whole_numbers(self):
        for form in FORMS:
            drawn = Drawn(100 + form)
            calls = []
            for sort, mode, count in product(range(8), MODES, range(150)):
                v = drawn.draw.getrandbits(64)
                if count % 3:
                    v = (v >> drawn.draw.randrange(65) << drawn.draw.randrange(65)) % 2**64
                if count % 2:
                    v = -v % 2**64
                calls.append([5, form, sort, mode, v])
            self.hold(calls)
