"""Words of opcodes that no instruction has, and words with each single bit turned over."""

from tests.helper import CAUSE, FRM, VALUE, MachineTest, line, program_call

OPCODES = (0x07, 0x13, 0x27, 0x33, 0x37, 0x43, 0x47, 0x4B, 0x4F, 0x53, 0x63, 0x6F, 0x73)


class OtherOpcodes(MachineTest):
    def test_every_other_opcode(self):
        for opcode in range(128):
            if opcode not in OPCODES:
                for above in (0, 0x00208180, 0xFFFFFF80, 0x12345000, 0xE0010080, 0x00100000):
                    self.is_not_legal(above | opcode, {FRM: 0})

    def test_the_least_and_the_greatest_word(self):
        self.is_not_legal(0, {})
        self.is_not_legal(2**32 - 1, {})

    def test_the_value_is_the_word_wherever_it_stands(self):
        words = [0x13] * 9 + [0xFEDCBA98] + [0x13] * 9
        told = line([program_call(words), [8, 20], [9, CAUSE], [9, VALUE], [9, 66]])
        self.assertEqual(told[1:], [[0, 3, 9], [0, 2], [0, 0xFEDCBA98], [0, 36]])
