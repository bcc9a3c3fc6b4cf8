"""The instructions that read and write fflags, frm and fcsr."""

from tests.helper import FFLAGS, FRM, PC, BY_STOP_WORD, MachineTest, word_i

WRITE, SET, CLEAR = 1, 2, 3
FORMS_OF_X = (1, 2, 3)
FORMS_OF_NUMBERS = (5, 6, 7)
KEPT = {1: 31, 2: 7, 3: 255}
STARTS = ((0, 0), (0b10110, 0b101), (0b01001, 0b010), (31, 7))
TOP = 2**64 - 1


def control(which, f3, rd, rs1):
    return word_i(0x73, rd, f3, rs1, which)


def content(which, fflags, frm):
    return {1: fflags, 2: frm, 3: 32 * frm + fflags}[which]


def places(which, kept):
    """What is changed where so much is written and kept."""
    return {1: {FFLAGS: kept}, 2: {FRM: kept}, 3: {FFLAGS: kept % 32, FRM: kept // 32}}[which]


class Controls(MachineTest):
    def everywhere(self, look):
        """look: taken with each of the three, each form, and some contents."""
        for which in (1, 2, 3):
            for form in (WRITE, SET, CLEAR):
                for fflags, frm in STARTS:
                    look(which, form, {FFLAGS: fflags, FRM: frm}, content(which, fflags, frm))

    def written(self, which, form, old, n):
        whole = {WRITE: n, SET: old | n, CLEAR: old & (TOP - n)}[form]
        return places(which, whole & KEPT[which])

    def test_written_out(self):
        # csrrw x1, fcsr, x2; csrrs x1, fflags, x0; csrrwi x0, frm, 3; csrrci x5, fflags, 17
        self.does(0x003110F3, {2: 0x9D, FFLAGS: 3, FRM: 1}, {1: 0x23, FFLAGS: 0x1D, FRM: 4})
        self.does(0x001020F3, {FFLAGS: 19}, {1: 19})
        self.does(0x0021D073, {FRM: 1}, {FRM: 3})
        self.does(0x0018F2F3, {FFLAGS: 0b11011}, {5: 0b11011, FFLAGS: 0b01010})

    def test_by_a_register(self):
        def look(which, form, held, old):
            for n in (0, 1, 0b10101, 0xFF, 0x5A, 2**63, TOP, 0x0123456789ABCDEF):
                self.does(control(which, form, 6, 9), {**held, 9: n}, {6: old, **self.written(which, form, old, n)})
        self.everywhere(look)

    def test_by_a_number(self):
        def look(which, form, held, old):
            for n in (0, 1, 9, 22, 31):
                word = control(which, 4 + form, 6, n)
                self.does(word, {**held, 9: TOP, 1: TOP, 22: TOP, 31: TOP},
                          {6: old, **self.written(which, form, old, n)})
        self.everywhere(look)

    def test_rs1_bits_0(self):
        def look(which, form, held, old):
            for f3 in (form, 4 + form):
                changed = places(which, 0) if form == WRITE else {}
                self.does(control(which, f3, 6, 0), held, {6: old, **changed})
        self.everywhere(look)

    def test_rd_0(self):
        def look(which, form, held, old):
            self.does(control(which, form, 0, 9), {**held, 9: 0x6C}, self.written(which, form, old, 0x6C))
            self.does(control(which, 4 + form, 0, 13), held, self.written(which, form, old, 13))
        self.everywhere(look)

    def test_rd_and_rs1_the_same_register(self):
        def look(which, form, held, old):
            self.does(control(which, form, 9, 9), {**held, 9: 0x6C},
                      {9: old, **self.written(which, form, old, 0x6C)})
            # The number 9 stands in rs1's bits: x9's content is not looked at.
            self.does(control(which, 4 + form, 9, 9), {**held, 9: 0x6C},
                      {9: old, **self.written(which, form, old, 9)})
        self.everywhere(look)

    def test_which_bits_are_kept(self):
        start = {FFLAGS: 0, FRM: 0, 9: TOP}
        self.does(control(1, WRITE, 0, 9), start, {FFLAGS: 31})
        self.does(control(2, WRITE, 0, 9), start, {FRM: 7})
        self.does(control(3, WRITE, 0, 9), start, {FFLAGS: 31, FRM: 7})
        start = {FFLAGS: 31, FRM: 7, 9: 2**64 - 2**8}
        self.does(control(1, WRITE, 0, 9), start, {FFLAGS: 0})
        self.does(control(2, WRITE, 0, 9), start, {FRM: 0})
        self.does(control(3, WRITE, 0, 9), start, {FFLAGS: 0, FRM: 0})

    def test_each_mode_may_be_written(self):
        for frm in range(8):
            self.does(control(2, 5, 1, frm), {FRM: 7 - frm}, {1: 7 - frm, FRM: frm})


class NotLegal(MachineTest):
    def test_other_numbers(self):
        for which in (0, 4, 5, 8, 0x101, 0x201, 0x801, 0x803, 0xC00, 0xFFF):
            for f3 in FORMS_OF_X + FORMS_OF_NUMBERS:
                self.is_not_legal(control(which, f3, 6, 9), {})
                self.is_not_legal(control(which, f3, 0, 0), {})

    def test_other_f3(self):
        for which in (0, 1, 2, 3, 4, 0xFFF):
            for f3 in (0, 4):
                for rd, rs1 in ((6, 9), (0, 9), (6, 0)):
                    self.is_not_legal(control(which, f3, rd, rs1), {})
            self.is_not_legal(control(which, 4, 0, 0), {})
        for which in (1, 2, 3, 4, 0x105, 0x302, 0xFFF):
            self.is_not_legal(control(which, 0, 0, 0), {})


class Stop(MachineTest):
    def test_it_changes_pc_alone(self):
        before, after, told = self.executed([0x13, 0x73], {PC: 4, FFLAGS: 21, FRM: 3}, 1)
        self.assertEqual(told, [0, BY_STOP_WORD, 1])
        before[PC] = 8
        self.same_state(after, before)

    def test_no_other_word_stops(self):
        for bit in range(7, 32):
            word = 0x73 | 1 << bit
            # Bits 20 and 21 with f3 0, and all others alone, make no legal word.
            self.is_not_legal(word, {})
