"""The calls: how they stand in one list, how their answers do, and what is refused."""

import inspect
import unittest

from floathalf import processor
from tests.helper import ask, ask_one, split

ONE = 0x3FF0000000000000
TWO = 0x4000000000000000
BIG = 2**32 - 1
TOP = 2**64 - 1

# One call of each sort, and all that it gives back.
SHOWN = (
    ([0, 1, 0, 0, ONE, ONE, 0], [3, 0, TWO, 0]),
    ([1, 1, 1, ONE, TWO], [3, 0, 1, 0]),
    ([2, 1, ONE], [2, 0, 64]),
    ([3, 1, 2, 0, ONE], [3, 0, 0x3C00, 0]),
    ([4, 1, 6, 1, ONE], [3, 0, 1, 0]),
    ([5, 1, 7, 1, 2], [3, 0, TWO, 0]),
    ([6], [2, 0, 0]),
    ([7, 2, 0x00100093, 0x00000073], [2, 0, 0]),
    ([8, 0], [3, 0, 0, 0]),
    ([9, 1], [2, 0, 0]),
    ([10, 1, 0], [2, 0, 0]),
    ([11, 4094, 2], [4, 0, 2, 0, 0]),
    ([12, 0, 3, 9, 8, 7], [2, 0, 0]),
)


class Shape(unittest.TestCase):
    def test_each_call_alone(self):
        for call, told in SHOWN:
            self.assertEqual(processor.answers(call), told)

    def test_flags_are_told_behind_the_number(self):
        self.assertEqual(processor.answers([0, 1, 3, 0, ONE, 0, 0]), [3, 0, 0x7FF0000000000000, 8])
        self.assertEqual(processor.answers([1, 1, 2, ONE, 0x7FF8000000000000]), [3, 0, 0, 16])
        self.assertEqual(processor.answers([3, 1, 0, 1, 1]), [3, 0, 0, 3])
        self.assertEqual(processor.answers([4, 1, 1, 0, TWO ^ 2**63]), [3, 0, 0, 16])
        self.assertEqual(processor.answers([5, 2, 7, 0, TOP]), [3, 0, 0x7C00, 5])

    def test_answers_below_zero_are_told_modulo_2_to_the_64(self):
        self.assertEqual(processor.answers([4, 1, 0, 0, ONE ^ 2**63]), [3, 0, TOP, 0])

    def test_calls_stand_one_behind_another(self):
        calls = [number for call, told in SHOWN for number in call]
        expected = [number for call, told in SHOWN for number in told]
        self.assertEqual(processor.answers(calls), expected)
        calls = [number for call, told in reversed(SHOWN) for number in call]
        expected = [number for call, told in reversed(SHOWN) for number in told]
        self.assertEqual(processor.answers(calls), expected)

    def test_400_calls(self):
        calls, expected = [], []
        for count in range(400):
            call, told = SHOWN[count * 5 % len(SHOWN)]
            calls += call
            expected += told
        self.assertEqual(processor.answers(calls), expected)

    def test_refusals_stand_among_other_calls(self):
        told = processor.answers([2, 3, 0, 6, 0, 0, 16, 0, 1, 1, 1, 2, 0, 0, 1, 2, 5, 1, 1])
        self.assertEqual(told, [1, -1, 2, 0, 0, 1, -1, 2, 0, 16, 1, -1])

    def test_kinds_of_what_is_given_back(self):
        told = processor.answers([number for call, told in SHOWN for number in call] + [2, 9, 0])
        self.assertIs(type(told), list)
        self.assertEqual({type(number) for number in told}, {int})

    def test_the_function_has_one_plain_parameter(self):
        parameters = inspect.signature(processor.answers).parameters
        self.assertEqual(list(parameters), ["calls"])
        self.assertIs(parameters["calls"].default, inspect.Parameter.empty)


class Refused(unittest.TestCase):
    def limits(self, make, greatest):
        """make: from a number to a call, in which the number may be from 0 to the greatest."""
        for number in range(greatest + 1):
            self.assertEqual(ask_one(make(number))[0], 0, make(number))
        for number in (greatest + 1, greatest + 2, 255, 256, 65536, 2**31, BIG):
            self.assertEqual(ask_one(make(number)), [-1], make(number))
            self.assertEqual(processor.answers(make(number)), [1, -1])

    def test_op(self):
        self.limits(lambda form: [0, form, 0, 0, 0, 0, 0], 2)
        self.limits(lambda operation: [0, 0, operation, 0, 0, 0, 0], 15)
        for operation in range(16):
            # The mode is looked at even where nothing is rounded.
            self.limits(lambda mode: [0, 0, operation, mode, 0, 0, 0], 4)

    def test_the_mode_is_looked_at_whatever_the_operands_are(self):
        for operation in range(16):
            for form in range(3):
                for a in (0, 1, 0x7E00, 0x7FC00000, TOP):
                    self.assertEqual(ask_one([0, form, operation, 5, a, a, a]), [-1])

    def test_compare(self):
        self.limits(lambda form: [1, form, 0, 0, 0], 2)
        self.limits(lambda kind: [1, 0, kind, 0, 0], 4)

    def test_class_of(self):
        self.limits(lambda form: [2, form, 0], 2)

    def test_convert(self):
        self.limits(lambda source: [3, source, 0, 0, 0], 2)
        self.limits(lambda goal: [3, 0, goal, 0, 0], 2)
        self.limits(lambda mode: [3, 0, 0, mode, 0], 4)
        self.limits(lambda mode: [3, 0, 1, mode, 0x7FC00000], 4)

    def test_whole(self):
        self.limits(lambda form: [4, form, 0, 0, 0], 2)
        self.limits(lambda sort: [4, 0, sort, 0, 0], 7)
        self.limits(lambda mode: [4, 0, 0, mode, 0], 4)

    def test_floating(self):
        self.limits(lambda form: [5, form, 0, 0, 0], 2)
        self.limits(lambda sort: [5, 0, sort, 0, 0], 7)
        self.limits(lambda mode: [5, 0, 0, mode, 0], 4)

    def test_bits_are_never_refused(self):
        for call in ([0, 2, 11, 0, TOP, TOP, TOP], [1, 2, 0, TOP, TOP], [2, 2, TOP], [3, 2, 2, 0, TOP],
                     [4, 2, 0, 0, TOP], [5, 2, 0, 0, TOP]):
            self.assertEqual(ask_one(call)[0], 0)

    def test_several_numbers_beyond(self):
        self.assertEqual(processor.answers([0, BIG, BIG, BIG, TOP, TOP, TOP, 1, BIG, BIG, TOP, TOP]), [1, -1, 1, -1])

    def test_a_refusal_changes_nothing(self):
        good = [0, 1, 0, 0, ONE, ONE, 0]
        told = split(processor.answers(good + [0, 3, 0, 0, 0, 0, 0] + good + [3, 0, 3, 0, 0] + good))
        self.assertEqual(told, [[0, TWO, 0], [-1], [0, TWO, 0], [-1], [0, TWO, 0]])


class Apart(unittest.TestCase):
    def test_what_is_handed_in_stays_as_it_was(self):
        for call, told in SHOWN + (([2, 3, 0], [1, -1]),):
            calls = list(call)
            processor.answers(calls)
            self.assertEqual(calls, call)
            self.assertIsNot(processor.answers(calls), calls)

    def test_two_lists_do_not_touch_each_other(self):
        calls = [number for call, told in SHOWN for number in call]
        expected = [number for call, told in SHOWN for number in told]
        first = processor.answers(calls)
        kept = list(first)
        second = processor.answers([0, 0, 0, 9, 0, 0, 0, 2, 0, 0])
        self.assertEqual(second, [1, -1, 2, 0, 16])
        self.assertEqual(first, kept)
        first.append(7)
        self.assertEqual(processor.answers(calls), expected)

    def test_no_call_touches_the_ones_behind_it(self):
        calls = [call for call, told in SHOWN]
        alone = [ask_one(call) for call in calls]
        for call in calls:
            for other, expected in zip(calls, alone):
                self.assertEqual(ask([call, other])[1], expected)

    def test_new_stands_anywhere(self):
        self.assertEqual(processor.answers([6, 6, 2, 0, 0, 6]), [2, 0, 0, 2, 0, 0, 2, 0, 16, 2, 0, 0])
