"""The machine: its contents, how they are at first, and how they are read and written."""

from floathalf.formats import canonical_nan, own_bits
from floathalf.wholes import wrapped

MEMORY_SIZE = 4096

# By the format: what stands above a number's bits in an f register, the least content that is boxed.
BOXES = (0xFFFFFFFF00000000, 0, 0xFFFFFFFFFFFF0000)


class Machine:
    """x and f are the registers, words is the program; all is as at first."""

    def __init__(self):
        self.begin()

    def begin(self):
        """All as at first."""
        self.x = [0] * 32
        self.f = [0] * 32
        self.frm = 0
        self.fflags = 0
        self.pc = 0
        self.words = []
        self.memory = [0] * MEMORY_SIZE
        self.cause = 2 ** 64 - 1
        self.value = 0

    def put_x(self, place, number):
        """The number modulo 2^64 goes to an x register; x0 stays 0."""
        if place != 0:
            self.x[place] = wrapped(number)

    def operand(self, form, place):
        """The bits of the number that an f register counts as in the format."""
        content = self.f[place]
        if content < BOXES[form]:
            return canonical_nan(form)
        return own_bits(form, content)

    def put_f(self, form, place, bits):
        """A number of the format goes to an f register, boxed."""
        self.f[place] = BOXES[form] | bits

    def raise_flags(self, flags):
        """These flags are raised, and others stay raised."""
        self.fflags = self.fflags | flags

    def load(self, address, size):
        """The number that so many bytes are, all within the memory, lowest byte first."""
        number = 0
        for place in range(size):
            number = number + (self.memory[address + place] << (8 * place))
        return number

    def store(self, address, size, number):
        """The number's low bytes, so many, go to the memory; all of them are within it."""
        for place in range(size):
            self.memory[address + place] = (number >> (8 * place)) & 255
