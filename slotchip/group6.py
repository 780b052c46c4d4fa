"""Group 6: loads, and one register made from another."""

from slotchip.bits import MASK, signed


def load_at(machine, n, m, i):
    regs = machine.regs
    regs[n] = machine.load(regs[m], 1 << (i & 3))


# Rn is given last: where n is m, what was read stays.
def load_and_pass(machine, n, m, i):
    regs = machine.regs
    size = 1 << (i & 3)
    value = machine.load(regs[m], size)
    regs[m] = (regs[m] + size) & MASK
    regs[n] = value


def move(machine, n, m, i):
    machine.regs[n] = machine.regs[m]


def turn_bits(machine, n, m, i):
    machine.regs[n] = machine.regs[m] ^ MASK


def exchange_bytes(machine, n, m, i):
    value = machine.regs[m]
    machine.regs[n] = value & 0xFFFF0000 | (value & 255) << 8 | value >> 8 & 255


def exchange_halves(machine, n, m, i):
    value = machine.regs[m]
    machine.regs[n] = (value & 0xFFFF) << 16 | value >> 16


def negate(machine, n, m, i):
    machine.regs[n] = -machine.regs[m] & MASK


def negate_with_t(machine, n, m, i):
    value = -machine.regs[m] - machine.t
    machine.regs[n] = value & MASK
    machine.t = 1 if value < 0 else 0


def lowest_byte(machine, n, m, i):
    machine.regs[n] = machine.regs[m] & 255


def lower_half(machine, n, m, i):
    machine.regs[n] = machine.regs[m] & 0xFFFF


def lowest_byte_signed(machine, n, m, i):
    machine.regs[n] = signed(machine.regs[m], 8) & MASK


def lower_half_signed(machine, n, m, i):
    machine.regs[n] = signed(machine.regs[m], 16) & MASK


BY_K = (
    load_at,
    load_at,
    load_at,
    move,
    load_and_pass,
    load_and_pass,
    load_and_pass,
    turn_bits,
    exchange_bytes,
    exchange_halves,
    negate_with_t,
    negate,
    lowest_byte,
    lower_half,
    lowest_byte_signed,
    lower_half_signed,
)


def act_of_group_6(i):
    return BY_K[i & 15]
