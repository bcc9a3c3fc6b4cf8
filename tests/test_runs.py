"""Runs: how they end, what they look at first, and that they may be cut into pieces."""

from tests.helper import AT_END, BY_FAULT, BY_NUMBER, BY_STOP_WORD, CAUSE, FFLAGS, LOOK, NO_CAUSE, PC
from tests.helper import REFUSED, STOP_WORD, VALUE, MachineTest, add_one, f, line, program_call, set_calls, state_of
from tests.helper import states, word_b, word_float, word_i, word_j

TOP = 2**64 - 1
NOT_LEGAL_WORD = 0xFFFFFFFF

# f1 to f3 are counted down, halved and added up till x5 is 0; flags are raised on the way.
HELD = {5: 9, f(1): 0x3FF0000000000001, f(2): 0x4008000000000000, f(3): 0, FFLAGS: 0}
LOOP = [
    word_float(0x03, 1, 1, 0, 1, 2),
    word_float(0x00, 1, 3, 0, 3, 1),
    word_i(0x13, 5, 0, 5, -1),
    word_b(1, 5, 0, -12),
]


def run(steps):
    return [8, steps]


class Ends(MachineTest):
    def told(self, words, calls):
        """The answers to the calls that come behind the program's."""
        return line([program_call(words)] + calls)[1:]

    def ending(self, words, pc, steps, told):
        self.assertEqual(self.told(words, [[10, PC, pc], run(steps)])[1], [0] + told)

    def changes_nothing(self, words, pc, steps, told):
        before, after, heard = self.executed(words, {PC: pc}, steps)
        self.assertEqual(heard, [0] + told)
        self.same_state(after, before)

    def test_no_step(self):
        words = [add_one(1)] * 3
        for pc in (0, 4, 8, 12, 16, 1, 2, 13, TOP, TOP - 3):
            self.changes_nothing(words, pc, 0, [BY_NUMBER, 0])
        self.changes_nothing([STOP_WORD], 0, 0, [BY_NUMBER, 0])
        self.changes_nothing([NOT_LEGAL_WORD], 0, 0, [BY_NUMBER, 0])
        self.changes_nothing([], 0, 0, [BY_NUMBER, 0])

    def test_no_words(self):
        self.assertEqual(line([run(0), run(1), run(1000), [9, CAUSE], [9, PC]]),
                         [[0, BY_NUMBER, 0], [0, AT_END, 0], [0, AT_END, 0], [0, NO_CAUSE], [0, 0]])
        self.changes_nothing([], 0, 1, [AT_END, 0])
        self.ending([], 4, 1, [BY_FAULT, 0])

    def test_by_number(self):
        words = [add_one(1)] * 5
        for steps in range(6):
            before, after, told = self.executed(words, {1: 100}, steps)
            self.assertEqual(told, [0, BY_NUMBER, steps])
            before[1], before[PC] = 100 + steps, 4 * steps
            self.same_state(after, before)

    def test_at_the_end(self):
        words = [add_one(1)] * 5
        # The number is looked at ahead of the end.
        for steps, told in ((5, [BY_NUMBER, 5]), (6, [AT_END, 5]), (1000, [AT_END, 5])):
            before, after, heard = self.executed(words, {1: 100}, steps)
            self.assertEqual(heard, [0] + told)
            before[1], before[PC] = 105, 20
            self.same_state(after, before)
        self.changes_nothing(words, 20, 1, [AT_END, 0])
        self.changes_nothing(words, 20, 1000, [AT_END, 0])

    def test_by_the_stop_word(self):
        words = [add_one(1), add_one(1), STOP_WORD, add_one(1)]
        for steps, told, x, pc in ((1, [BY_NUMBER, 1], 101, 4), (2, [BY_NUMBER, 2], 102, 8),
                                   (3, [BY_STOP_WORD, 3], 102, 12), (4, [BY_STOP_WORD, 3], 102, 12),
                                   (1000, [BY_STOP_WORD, 3], 102, 12)):
            before, after, heard = self.executed(words, {1: 100}, steps)
            self.assertEqual(heard, [0] + told)
            before[1], before[PC] = x, pc
            self.same_state(after, before)

    def test_the_stop_word_at_the_programs_end(self):
        told = self.told([add_one(1), STOP_WORD], [run(2), run(1), run(0), run(5)])
        self.assertEqual(told, [[0, BY_STOP_WORD, 2], [0, AT_END, 0], [0, BY_NUMBER, 0], [0, AT_END, 0]])
        told = self.told([STOP_WORD], [run(1), [9, PC], run(1)])
        self.assertEqual(told, [[0, BY_STOP_WORD, 1], [0, 4], [0, AT_END, 0]])

    def test_stop_words_one_behind_another(self):
        told = self.told([STOP_WORD] * 3, [run(1000), run(1), run(0), run(2), [9, PC], run(2)])
        self.assertEqual(told, [[0, BY_STOP_WORD, 1], [0, BY_STOP_WORD, 1], [0, BY_NUMBER, 0],
                                [0, BY_STOP_WORD, 1], [0, 12], [0, AT_END, 0]])

    def test_by_a_fault(self):
        words = [add_one(1), add_one(1), NOT_LEGAL_WORD, add_one(1)]
        for steps, told, x, fault in ((2, [BY_NUMBER, 2], 102, False), (3, [BY_FAULT, 2], 102, True),
                                      (1000, [BY_FAULT, 2], 102, True)):
            before, after, heard = self.executed(words, {1: 100}, steps)
            self.assertEqual(heard, [0] + told)
            before[1], before[PC] = x, 8
            if fault:
                before[CAUSE], before[VALUE] = 2, NOT_LEGAL_WORD
            self.same_state(after, before)

    def test_a_fault_as_the_first_step(self):
        for word, value in ((NOT_LEGAL_WORD, NOT_LEGAL_WORD), (0, 0)):
            told = self.told([word], [run(1), run(0), run(1000), [9, CAUSE], [9, VALUE], [9, PC]])
            self.assertEqual(told, [[0, BY_FAULT, 0], [0, BY_NUMBER, 0], [0, BY_FAULT, 0], [0, 2], [0, value], [0, 0]])

    def test_pc_beyond_the_end(self):
        for words in ([], [add_one(1)] * 3, [add_one(1)] * 100):
            end = 4 * len(words)
            for pc in (end + 4, end + 8, 4096, 2**32, 2**63, TOP - 3):
                before, after, told = self.executed(words, {PC: pc}, 1)
                self.assertEqual(told, [0, BY_FAULT, 0])
                before[CAUSE], before[VALUE] = 1, pc
                self.same_state(after, before)

    def test_pc_that_is_no_multiple_of_4(self):
        for words in ([], [add_one(1)] * 3):
            for pc in (1, 2, 3, 5, 11, 13, 14, TOP):
                before, after, told = self.executed(words, {PC: pc}, 10)
                self.assertEqual(told, [0, BY_FAULT, 0])
                before[CAUSE], before[VALUE] = 1, pc
                self.same_state(after, before)

    def test_a_jump_to_the_end_and_beyond_it(self):
        words = [word_j(0, 8), add_one(1)]
        self.assertEqual(self.told(words, [run(1), run(1)]), [[0, BY_NUMBER, 1], [0, AT_END, 0]])
        self.assertEqual(self.told(words, [run(9)]), [[0, AT_END, 1]])
        words = [word_j(0, 12), add_one(1)]
        self.assertEqual(self.told(words, [run(9), [9, CAUSE], [9, VALUE]]), [[0, BY_FAULT, 1], [0, 1], [0, 12]])

    def test_the_longest_program(self):
        words = [add_one(1)] * 1024
        told = self.told(words, [run(1000), run(1000), [9, 1], [9, PC]])
        self.assertEqual(told, [[0, BY_NUMBER, 1000], [0, AT_END, 24], [0, 1024], [0, 4096]])


class Number(MachineTest):
    def test_1000_and_1001(self):
        words = [add_one(1), word_j(0, -4)]
        ready = [program_call(words)]
        found, told = states([ready, [run(1000)], [run(1001)], [run(2**32 - 1)], [run(1002)]])
        self.assertEqual([some[0] for some in told[1:]], [[0, BY_NUMBER, 1000], REFUSED, REFUSED, REFUSED])
        self.assertEqual(found[1][1], 500)
        for later in found[2:]:
            self.same_state(later, found[1])

    def test_1001_is_refused_wherever_pc_stands(self):
        for words in ([], [STOP_WORD], [NOT_LEGAL_WORD]):
            found, told = states([[program_call(words)], [run(1001)]])
            self.assertEqual(told[1], [REFUSED])
            self.same_state(found[1], found[0])

    def test_400_000_steps(self):
        words = [add_one(1), word_j(0, -4)]
        told = line([program_call(words)] + [run(1000)] * 398 + [[9, 1]])
        self.assertEqual(told[1:], [[0, BY_NUMBER, 1000]] * 398 + [[0, 199000]])


class Behind(MachineTest):
    """A run behind one that ended each way."""

    def test_behind_the_number(self):
        words = [add_one(1)] * 4
        told = line([program_call(words), run(3), run(3), run(3), [9, 1]])
        self.assertEqual(told[1:], [[0, BY_NUMBER, 3], [0, AT_END, 1], [0, AT_END, 0], [0, 4]])

    def test_behind_the_end(self):
        words = [add_one(1)] * 4
        told = line([program_call(words), run(9), [10, PC, 8], run(9), [9, 1]])
        self.assertEqual(told[1:], [[0, AT_END, 4], [0, 0], [0, AT_END, 2], [0, 6]])

    def test_behind_the_stop_word(self):
        words = [add_one(1), STOP_WORD, add_one(1), add_one(1), STOP_WORD, add_one(1)]
        told = line([program_call(words)] + [run(9)] * 4 + [[9, 1]])
        self.assertEqual(told[1:], [[0, BY_STOP_WORD, 2], [0, BY_STOP_WORD, 3], [0, AT_END, 1], [0, AT_END, 0], [0, 4]])

    def test_behind_a_fault(self):
        words = [add_one(1), NOT_LEGAL_WORD, add_one(1)]
        told = line([program_call(words), run(9), run(9), [10, PC, 8], run(9), [9, CAUSE], [9, VALUE], [9, 1]])
        self.assertEqual(told[1:], [[0, BY_FAULT, 1], [0, BY_FAULT, 0], [0, 0], [0, AT_END, 1],
                                    [0, 2], [0, NOT_LEGAL_WORD], [0, 2]])

    def test_behind_a_refusal(self):
        words = [add_one(1), add_one(1), STOP_WORD]
        told = line([program_call(words), run(1), run(1001), [10, 67, 0], run(1), run(1)])
        self.assertEqual(told[1:], [[0, BY_NUMBER, 1], REFUSED, REFUSED, [0, BY_NUMBER, 1], [0, BY_STOP_WORD, 1]])

    def test_behind_another_program(self):
        told = line([program_call([add_one(1)] * 5), run(3), program_call([add_one(2)] * 2), run(9), [9, 1], [9, 2]])
        self.assertEqual(told[1:], [[0, BY_NUMBER, 3], [0, 0], [0, AT_END, 2], [0, 3], [0, 2]])


class Pieces(MachineTest):
    """A run of k and l steps is one of k and, if it ended by its number, one of l behind it."""

    def pieces(self, words, numbers):
        ready = [program_call(words)] + set_calls(HELD)
        for k in numbers:
            for whole in numbers:
                if whole < k:
                    continue
                at_once = line(ready + [run(whole)] + LOOK)[len(ready):]
                first = line(ready + [run(k)] + LOOK)[len(ready):]
                if first[0][1] != BY_NUMBER:
                    self.assertEqual(first, at_once)
                    continue
                cut = line(ready + [run(k), run(whole - k)] + LOOK)[len(ready):]
                self.assertEqual(cut[1], [0, at_once[0][1], at_once[0][2] - k])
                self.same_state(state_of(cut[2:]), state_of(at_once[1:]))

    def test_to_the_end(self):
        self.pieces(LOOP, range(0, 44, 3))
        self.pieces(LOOP, (35, 36, 37))

    def test_to_the_stop_word(self):
        self.pieces(LOOP + [STOP_WORD, add_one(7)], (0, 1, 2, 5, 18, 35, 36, 37, 38, 39, 100))

    def test_to_a_fault(self):
        self.pieces(LOOP + [NOT_LEGAL_WORD, add_one(7)], (0, 1, 2, 5, 18, 35, 36, 37, 38, 39, 100))

    def test_past_the_end(self):
        self.pieces(LOOP + [word_j(0, 400)], (0, 1, 35, 36, 37, 38, 39))

    def test_into_single_steps(self):
        for behind in ([], [STOP_WORD], [NOT_LEGAL_WORD]):
            ready = [program_call(LOOP + behind)] + set_calls(HELD)
            at_once = line(ready + [run(1000)] + LOOK)[len(ready):]
            single = line(ready + [run(1)] * 36 + [run(0)] * 3 + [run(1)] + LOOK)[len(ready):]
            self.assertEqual(single[:39], [[0, BY_NUMBER, 1]] * 36 + [[0, BY_NUMBER, 0]] * 3)
            self.assertEqual(single[39], [0, at_once[0][1], at_once[0][2] - 36])
            self.same_state(state_of(single[40:]), state_of(at_once[1:]))


class Faults(MachineTest):
    """Cause and value are changed by faults and by new alone."""

    def test_each_fault_and_what_is_kept(self):
        words = {0: word_j(1, 6), 2: 0x12345678, 5: word_i(0x07, 3, 3, 0, -9), 7: 0xFE003FA7}
        values = {0: 6, 2: 0x12345678, 5: TOP - 8, 7: TOP}
        for number, word in words.items():
            told = line([program_call([word]), run(1), [9, CAUSE], [9, VALUE],
                         program_call([add_one(1), STOP_WORD]), run(5), [10, 64, 3], [10, 65, 3], [10, 1, 4],
                         [12, 0, 1, 7], [0, 0, 0, 0, 0, 0, 0], [8, 1001], [10, 67, 5], [10, 68, 5],
                         [9, CAUSE], [9, VALUE], [6], [9, CAUSE], [9, VALUE]])
            self.assertEqual(told[1:4], [[0, BY_FAULT, 0], [0, number], [0, values[number]]])
            self.assertEqual(told[5], [0, BY_STOP_WORD, 2])
            self.assertEqual(told[11:14], [REFUSED] * 3)
            self.assertEqual(told[14:16], [[0, number], [0, values[number]]])
            self.assertEqual(told[16:], [[0, 0], [0, NO_CAUSE], [0, 0]])

    def test_the_next_fault_takes_the_place_of_the_last(self):
        told = line([program_call([0x12345678]), run(1), [10, PC, 7], run(1), [9, CAUSE], [9, VALUE],
                     [10, PC, 0], run(1), [9, CAUSE], [9, VALUE]])
        self.assertEqual(told[4:6], [[0, 1], [0, 7]])
        self.assertEqual(told[8:], [[0, 2], [0, 0x12345678]])
