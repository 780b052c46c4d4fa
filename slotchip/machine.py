"""What the machine keeps: registers, conditions, places, and the memory of one run."""

from slotchip.bits import MASK, signed

SIZE = 65536

# The numbers by which set and get name what isn't one of the registers 0 to 15.
STATUS = 16
GBR = 17
MACH = 19
MACL = 20
PR = 21
PLACE = 22


class NoInstruction(Exception):
    pass


class BehindJump(Exception):
    pass


class NotMultiple(Exception):
    pass


class NotWithin(Exception):
    pass


class Machine:
    def __init__(self):
        # One list for all that is a plain number, so that each is found by the number that set and get use.
        # The status (16) is kept in parts instead: most instructions touch T alone.
        self.regs = [0] * PLACE
        self.t = 0
        self.s = 0
        self.q = 0
        self.m = 0
        self.mask = 0
        self.place = 0
        self.follow = 2
        # The next place can't tell whether a jump is waiting: a jump may lead to where one would go anyway.
        self.waiting = False
        self.why = 0
        self.memory = []
        self.touched = {}
        # What words mean is found out once for each word: a loop comes by the same ones again and again.
        self.known = {}

    def read(self, which):
        if which == STATUS:
            return self.m << 9 | self.q << 8 | self.mask << 4 | self.s << 1 | self.t
        if which == PLACE:
            return self.place
        return self.regs[which]

    def write(self, which, value):
        if which == STATUS:
            self.write_status(value)
        elif which == PLACE:
            self.place = value
            self.follow = (value + 2) & MASK
            self.waiting = False
        else:
            self.regs[which] = value

    def write_status(self, value):
        self.t = value & 1
        self.s = value >> 1 & 1
        self.mask = value >> 4 & 15
        self.q = value >> 8 & 1
        self.m = value >> 9 & 1

    def begin(self, first):
        self.memory = first + [0] * (SIZE - len(first))
        self.touched = {}
        self.why = 0

    def check(self, place, size):
        if place & (size - 1):
            raise NotMultiple()
        # A multiple of its size that begins within memory ends there too, since every size divides SIZE.
        if place >= SIZE:
            raise NotWithin()

    def load(self, place, size):
        self.check(place, size)
        memory = self.memory
        if size == 1:
            return signed(memory[place], 8) & MASK
        if size == 2:
            return signed(memory[place] << 8 | memory[place + 1], 16) & MASK
        return memory[place] << 24 | memory[place + 1] << 16 | memory[place + 2] << 8 | memory[place + 3]

    def store(self, place, size, value):
        self.check(place, size)
        memory = self.memory
        # No store crosses a multiple of 4, so one mark stands for all the bytes that it may change.
        self.touched[place >> 2] = True
        if size == 1:
            memory[place] = value & 255
        elif size == 2:
            memory[place] = value >> 8 & 255
            memory[place + 1] = value & 255
        else:
            memory[place] = value >> 24
            memory[place + 1] = value >> 16 & 255
            memory[place + 2] = value >> 8 & 255
            memory[place + 3] = value & 255
