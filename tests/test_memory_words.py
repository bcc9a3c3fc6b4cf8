"""Loads and stores of f registers."""

from tests.helper import BOX, BYTES, MachineTest, f, write_call, word_i, word_s

HALF, SINGLE, DOUBLE = 1, 2, 3
SIZES = {HALF: 2, SINGLE: 4, DOUBLE: 8}
BOXES = {HALF: BOX[2], SINGLE: BOX[0], DOUBLE: BOX[1]}
TOP = 2**64 - 1
LOAD_OUTSIDE, STORE_OUTSIDE = 5, 7

# Every byte of the memory differs from its neighbours, and from those 256 bytes away.
PATTERN = [(7 * at + at // 256 + 1) % 256 for at in range(4096)]
MEMORY = [write_call(0, PATTERN)]

CONTENT = 0x8877665544332211


def load(f3, rd, rs1, offset):
    return word_i(0x07, rd, f3, rs1, offset)


def store(f3, rs1, rs2, offset):
    return word_s(0x27, f3, rs1, rs2, offset)


def number_at(at, size):
    return int.from_bytes(bytes(PATTERN[at:at + size]), "little")


def bytes_put(at, size, content):
    return {BYTES + at + place: byte for place, byte in enumerate(content.to_bytes(8, "little")[:size])}


class Memory(MachineTest):
    def loads(self, f3, base, offset, address):
        self.does(load(f3, 3, 9, offset), {9: base}, {f(3): number_at(address, SIZES[f3]) + BOXES[f3]}, memory=MEMORY)

    def stores(self, f3, base, offset, address, content=CONTENT):
        self.does(store(f3, 9, 3, offset), {9: base, f(3): content},
                  bytes_put(address, SIZES[f3], content), memory=MEMORY)

    def both(self, f3, base, offset, address):
        self.loads(f3, base, offset, address)
        self.stores(f3, base, offset, address)

    def both_fault(self, f3, base, offset, address):
        held = {9: base, f(3): CONTENT}
        self.faults(load(f3, 3, 9, offset), held, LOAD_OUTSIDE, address, memory=MEMORY)
        self.faults(store(f3, 9, 3, offset), held, STORE_OUTSIDE, address, memory=MEMORY)


class WrittenOut(Memory):
    """Words as assemblers write them."""

    def test_loads(self):
        memory = [write_call(4, [1, 2, 3, 4, 5, 6, 7, 8])]
        # flh f1, 4(x2); flw f1, 4(x2); fld f1, 4(x2); flw f31, -8(x15)
        self.does(0x00411087, {2: 0}, {f(1): 0xFFFFFFFFFFFF0201}, memory=memory)
        self.does(0x00412087, {2: 0}, {f(1): 0xFFFFFFFF04030201}, memory=memory)
        self.does(0x00413087, {2: 0}, {f(1): 0x0807060504030201}, memory=memory)
        self.does(0xFF87AF87, {15: 16}, {f(31): 0xFFFFFFFF08070605}, memory=memory)

    def test_stores(self):
        # fsh f1, 8(x2); fsw f1, 8(x2); fsd f1, 8(x2); fsd f17, -24(x30)
        held = {2: 100, 30: 200, f(1): CONTENT, f(17): CONTENT}
        self.does(0x00111427, held, bytes_put(108, 2, CONTENT))
        self.does(0x00112427, held, bytes_put(108, 4, CONTENT))
        self.does(0x00113427, held, bytes_put(108, 8, CONTENT))
        self.does(0xFF1F3427, held, bytes_put(176, 8, CONTENT))


class Addresses(Memory):
    def test_even_and_odd_ones(self):
        for f3 in SIZES:
            for base in (0, 1, 2, 3, 4, 5, 7, 8, 15, 255, 256, 257, 2047, 4000):
                self.both(f3, base, 0, base)

    def test_offsets(self):
        for f3 in SIZES:
            for offset in (1, 2, 4, 8, 16, 31, 32, 64, 128, 256, 512, 1024, 2047, -1, -3, -32, -1024, -2039, -2040):
                self.both(f3, 2040, offset, 2040 + offset)

    def test_the_last_that_fits(self):
        for f3, size in SIZES.items():
            last = 4096 - size
            self.both(f3, last, 0, last)
            self.both(f3, last + 100, -100, last)
            self.both(f3, last - 100, 100, last)

    def test_the_first_that_does_not_fit(self):
        for f3, size in SIZES.items():
            for address in (4096 - size + 1, 4095, 4096, 4097, 2**32, 2**63):
                self.both_fault(f3, address, 0, address)
                self.both_fault(f3, address - 5, 5, address)
                self.both_fault(f3, address + 5, -5, address)

    def test_past_2_to_the_64(self):
        for f3 in SIZES:
            self.both(f3, 2048, -2048, 0)
            self.both(f3, TOP, 1, 0)
            self.both(f3, TOP - 7, 19, 11)
            self.both(f3, 2**64 - 2000, 2047, 47)
            self.both_fault(f3, 0, -1, TOP)
            self.both_fault(f3, TOP, 0, TOP)
            self.both_fault(f3, TOP - 1, 1, TOP)
            self.both_fault(f3, 7, -2048, 2**64 - 2041)
            for behind in (1, 2, 4, 7, 8):
                self.both_fault(f3, 2**64 - behind, 0, 2**64 - behind)

    def test_x0_as_the_base(self):
        for f3, size in SIZES.items():
            self.does(load(f3, 3, 0, 33), {}, {f(3): number_at(33, size) + BOXES[f3]}, memory=MEMORY)
            self.does(store(f3, 0, 3, 33), {f(3): CONTENT}, bytes_put(33, size, CONTENT), memory=MEMORY)
            self.faults(load(f3, 3, 0, -1), {}, LOAD_OUTSIDE, TOP, memory=MEMORY)
            self.faults(store(f3, 0, 3, -1), {}, STORE_OUTSIDE, TOP, memory=MEMORY)


class Contents(Memory):
    def test_what_is_stored_whatever_the_box(self):
        for f3 in SIZES:
            for content in (CONTENT, 0, TOP, 0xFFFFFFFF40302010, 0xFFFFFFFFFFFF3C01, 0x7FF0000000000001,
                            0x000000003F800000, 0xFFFF0000FFFF7C01):
                self.stores(f3, 777, 0, 777, content)

    def test_what_is_loaded_is_boxed_as_it_stands(self):
        for f3, size in SIZES.items():
            for row in ([0] * 8, [255] * 8, [1, 0x7C, 0x80, 0x7F, 0, 0, 0xF0, 0x7F], [0, 0, 0, 0x80] * 2):
                content = int.from_bytes(bytes(row[:size]), "little") + BOXES[f3]
                self.does(load(f3, 3, 0, 9), {}, {f(3): content}, memory=[write_call(9, row)])

    def test_each_register(self):
        for place in range(32):
            self.does(load(DOUBLE, place, 4, 0), {4: 64}, {f(place): number_at(64, 8)}, memory=MEMORY)
            held = {4: 64, f(place): CONTENT + place}
            self.does(store(DOUBLE, 4, place, 0), held, bytes_put(64, 8, CONTENT + place), memory=MEMORY)

    def test_f0_is_a_register_as_others_are(self):
        self.does(load(SINGLE, 0, 4, 0), {4: 64}, {f(0): number_at(64, 4) + BOXES[SINGLE]}, memory=MEMORY)


class NotLegal(MachineTest):
    def test_other_f3(self):
        for f3 in (0, 4, 5, 6, 7):
            for base in (0, 5000):
                self.is_not_legal(load(f3, 3, 9, 0), {9: base})
                self.is_not_legal(store(f3, 9, 3, 0), {9: base})
