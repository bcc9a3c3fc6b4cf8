"""The whole-number instructions, the branches and the jump."""

from tests.helper import BY_NUMBER, CAUSE, NO_CAUSE, PC, VALUE, MachineTest
from tests.helper import line, program_call, word_b, word_i, word_j, word_r, word_u

TOP = 2**64 - 1
LOWEST = 2**63
EQUAL, DIFFERS, LESS, NOT_LESS = 0, 1, 4, 5


def add(rd, rs1, rs2):
    return word_r(0x33, rd, 0, rs1, rs2, 0x00)


def subtract(rd, rs1, rs2):
    return word_r(0x33, rd, 0, rs1, rs2, 0x20)


def add_offset(rd, rs1, offset):
    return word_i(0x13, rd, 0, rs1, offset)


class WrittenOut(MachineTest):
    """Words as assemblers write them, so that no part stands in a wrong place here and in the program both."""

    def test_sums(self):
        self.does(0x123452B7, {}, {5: 0x12345000})
        self.does(0xFFF10093, {2: 10}, {1: 9})
        self.does(0x002081B3, {1: 10, 2: 3}, {3: 13})
        self.does(0x402081B3, {1: 10, 2: 3}, {3: 7})

    def test_branches_and_jumps(self):
        self.does(0x00208463, {1: 7, 2: 7}, {PC: 8})
        self.does(0xFE209EE3, {1: 7, 2: 8}, {PC: 8}, at=3)
        self.does(0x008000EF, {}, {1: 4, PC: 8})
        self.does(0xFFDFF06F, {}, {PC: 8}, at=3)


class Upper(MachineTest):
    def test_below_and_above_the_sign(self):
        for upper, content in ((0, 0), (1, 0x1000), (0x7FFFF, 0x7FFFF000), (0x80000, 0xFFFFFFFF80000000),
                               (0xFFFFF, 0xFFFFFFFFFFFFF000), (0xABCDE, 0xFFFFFFFFABCDE000)):
            self.does(word_u(7, upper), {}, {7: content})

    def test_each_rd(self):
        for rd in range(32):
            self.does(word_u(rd, 0x5A5A5), {}, {rd: 0x5A5A5000})


class Sums(MachineTest):
    def test_offset(self):
        for x, offset, content in (
                (5, 7, 12), (5, 0, 5), (0, 2047, 2047), (5, -7, TOP - 1), (2**40, -2048, 2**40 - 2048),
                (TOP, 1, 0), (TOP - 2, 2047, 2044), (0, -1, TOP), (LOWEST, -1, LOWEST - 1), (LOWEST - 1, 1, LOWEST)):
            self.does(add_offset(9, 8, offset), {8: x}, {9: content})

    def test_sum(self):
        for x, y, content in ((5, 7, 12), (TOP, 1, 0), (TOP, TOP, TOP - 1), (LOWEST, LOWEST, 0),
                              (LOWEST - 1, 1, LOWEST), (0, 0, 0), (2**32 - 1, 1, 2**32)):
            self.does(add(9, 8, 7), {8: x, 7: y}, {9: content})

    def test_difference(self):
        for x, y, content in ((7, 5, 2), (5, 7, TOP - 1), (0, 1, TOP), (0, TOP, 1), (0, LOWEST, LOWEST),
                              (LOWEST, 1, LOWEST - 1), (9, 9, 0), (2**32, 1, 2**32 - 1)):
            self.does(subtract(9, 8, 7), {8: x, 7: y}, {9: content})

    def test_rd_is_an_operand(self):
        self.does(add_offset(4, 4, -3), {4: 10}, {4: 7})
        self.does(add(4, 4, 5), {4: 10, 5: 3}, {4: 13})
        self.does(add(5, 4, 5), {4: 10, 5: 3}, {5: 13})
        self.does(add(4, 4, 4), {4: 10}, {4: 20})
        self.does(subtract(4, 4, 5), {4: 10, 5: 3}, {4: 7})
        self.does(subtract(5, 4, 5), {4: 10, 5: 3}, {5: 7})
        self.does(subtract(4, 4, 4), {4: 10}, {4: 0})

    def test_x0_as_rd(self):
        for word in (add_offset(0, 4, 3), add_offset(0, 0, 3), add(0, 4, 5), subtract(0, 4, 5)):
            self.does(word, {4: 10, 5: 3}, {})

    def test_x0_as_an_operand(self):
        self.does(add_offset(9, 0, -5), {0: 77}, {9: TOP - 4})
        self.does(add(9, 0, 5), {5: 3}, {9: 3})
        self.does(add(9, 5, 0), {5: 3}, {9: 3})
        self.does(subtract(9, 0, 5), {5: 3}, {9: TOP - 2})
        self.does(subtract(9, 5, 0), {5: 3}, {9: 3})
        self.does(subtract(9, 0, 0), {}, {9: 0})

    def test_each_operand_place(self):
        for place in range(1, 32):
            self.does(add(place, place, 32 - place), {place: 100, 32 - place: 30},
                      {place: 60 if place == 16 else 130})
            self.does(add_offset(32 - place, place, 1), {place: 100}, {32 - place: 101})

    def test_words_that_are_not_legal(self):
        for f3 in range(1, 8):
            self.is_not_legal(word_i(0x13, 9, f3, 8, 1), {})
            self.is_not_legal(word_r(0x33, 9, f3, 8, 7, 0x00), {})
            self.is_not_legal(word_r(0x33, 9, f3, 8, 7, 0x20), {})
        for f7 in (0x01, 0x02, 0x10, 0x1F, 0x21, 0x30, 0x40, 0x60, 0x7F):
            self.is_not_legal(word_r(0x33, 9, 0, 8, 7, f7), {})


class Branches(MachineTest):
    ROWS = ((5, 5), (5, 6), (6, 5), (0, TOP), (TOP, 0), (TOP, TOP - 1), (TOP - 1, TOP), (LOWEST, LOWEST - 1),
            (LOWEST - 1, LOWEST), (LOWEST, 0), (0, LOWEST), (LOWEST, LOWEST), (1, 2**32 + 1))

    def signed(self, x):
        return x - 2**64 if x >= LOWEST else x

    def is_taken(self, f3, x, y):
        x, y = self.signed(x), self.signed(y)
        return {EQUAL: x == y, DIFFERS: x != y, LESS: x < y, NOT_LESS: x >= y}[f3]

    def test_taken_and_not_taken(self):
        for f3 in (EQUAL, DIFFERS, LESS, NOT_LESS):
            for x, y in self.ROWS:
                for offset in (16, -8):
                    target = 12 + offset if self.is_taken(f3, x, y) else 16
                    self.does(word_b(f3, 8, 9, offset), {8: x, 9: y}, {PC: target}, at=3)

    def test_written_out(self):
        self.does(word_b(LESS, 8, 9, 8), {8: TOP, 9: 0}, {PC: 8})
        self.does(word_b(LESS, 8, 9, 8), {8: 0, 9: TOP}, {PC: 4})
        self.does(word_b(NOT_LESS, 8, 9, 8), {8: LOWEST - 1, 9: LOWEST}, {PC: 8})
        self.does(word_b(NOT_LESS, 8, 9, 8), {8: LOWEST, 9: LOWEST - 1}, {PC: 4})
        self.does(word_b(NOT_LESS, 8, 9, 8), {8: 3, 9: 3}, {PC: 8})
        self.does(word_b(LESS, 8, 9, 8), {8: 3, 9: 3}, {PC: 4})

    def test_x0_and_the_same_register_twice(self):
        self.does(word_b(EQUAL, 0, 0, 8), {}, {PC: 8})
        self.does(word_b(DIFFERS, 6, 6, 8), {}, {PC: 4})
        self.does(word_b(LESS, 6, 0, 8), {6: TOP}, {PC: 8})
        self.does(word_b(LESS, 0, 6, 8), {6: TOP}, {PC: 4})

    def test_each_offset_bit(self):
        offsets = [4, 8, 16, 32, 64, 128, 256, 512, 1024, 2048, 4092, 2044, -4, -8, -2048, -4096, -4092]
        for offset in offsets:
            self.does(word_b(EQUAL, 0, 0, offset), {}, {PC: (2000 + offset) % 2**64}, at=500)

    def test_target_that_is_no_multiple_of_4(self):
        for f3 in (EQUAL, DIFFERS, LESS, NOT_LESS):
            for x, y in self.ROWS:
                for offset in (2, 6, -2, -14, 2050, 4094, -4094):
                    word = word_b(f3, 8, 9, offset)
                    if self.is_taken(f3, x, y):
                        self.faults(word, {8: x, 9: y}, 0, 12 + offset & TOP, at=3)
                    else:
                        self.does(word, {8: x, 9: y}, {}, at=3)

    def test_pc_that_goes_past_2_to_the_64(self):
        self.does(word_b(EQUAL, 0, 0, -4), {}, {PC: TOP - 3})
        self.does(word_b(EQUAL, 0, 0, -4096), {}, {PC: 2**64 - 4092}, at=1)
        self.faults(word_b(EQUAL, 0, 0, -2), {}, 0, TOP - 1)
        self.faults(word_b(EQUAL, 0, 0, -6), {}, 0, TOP - 1, at=1)

    def test_a_branch_to_itself(self):
        self.does(word_b(EQUAL, 0, 0, 0), {}, {PC: 0})
        self.does(word_b(EQUAL, 0, 0, 0), {}, {PC: 8}, at=2)

    def test_a_pc_behind_the_program_is_a_fault_of_the_next_step_alone(self):
        told = line([program_call([word_b(EQUAL, 0, 0, -4)]), [8, 1], [9, CAUSE], [8, 1], [9, CAUSE], [9, VALUE]])
        self.assertEqual(told[1:], [[0, BY_NUMBER, 1], [0, NO_CAUSE], [0, 3, 0], [0, 1], [0, TOP - 3]])
        told = line([program_call([word_b(EQUAL, 0, 0, 8)]), [8, 2], [9, CAUSE], [9, VALUE], [9, PC]])
        self.assertEqual(told[1:], [[0, 3, 1], [0, 1], [0, 8], [0, 8]])

    def test_words_that_are_not_legal(self):
        for f3 in (2, 3, 6, 7):
            for offset in (8, 2):
                self.is_not_legal(word_b(f3, 8, 9, offset), {8: 1, 9: 1})
                self.is_not_legal(word_b(f3, 8, 9, offset), {8: 1, 9: 2})


class Jumps(MachineTest):
    def test_forward_and_back(self):
        self.does(word_j(1, 400), {}, {1: 4, PC: 400})
        self.does(word_j(31, -8), {}, {31: 16, PC: 4}, at=3)
        self.does(word_j(5, 0), {}, {5: 16, PC: 12}, at=3)

    def test_rd_0(self):
        self.does(word_j(0, 8), {}, {PC: 8})
        self.does(word_j(0, -12), {}, {PC: 0}, at=3)

    def test_each_offset_bit(self):
        for power in range(2, 20):
            self.does(word_j(1, 2**power), {}, {1: 2004, PC: 2000 + 2**power}, at=500)
            self.does(word_j(1, -2**power), {}, {1: 2004, PC: 2000 - 2**power & TOP}, at=500)
        self.does(word_j(1, -2**20), {}, {1: 4, PC: 2**64 - 2**20})
        self.does(word_j(1, 2**20 - 4), {}, {1: 4, PC: 2**20 - 4})
        self.does(word_j(1, 0x55554), {}, {1: 4, PC: 0x55554})
        self.does(word_j(1, 0xAAAA8), {}, {1: 4, PC: 0xAAAA8})

    def test_target_that_is_no_multiple_of_4(self):
        for rd in (0, 1, 9):
            for offset in (2, -2, 6, 2050, 2**20 - 2, -2**20 + 2):
                self.faults(word_j(rd, offset), {}, 0, 12 + offset & TOP, at=3)

    def test_pc_that_goes_past_2_to_the_64(self):
        self.does(word_j(1, -4), {}, {1: 4, PC: TOP - 3})
        self.faults(word_j(1, -6), {}, 0, TOP - 1, at=1)

    def test_f3_is_part_of_the_offset(self):
        for f3 in range(8):
            self.does(word_r(0x6F, 1, f3, 0, 0, 0), {}, {1: 4, PC: f3 << 12})
