"""Group 0, but for its jumps."""

from slotchip.bits import MASK
from slotchip.machine import MACH, MACL, STATUS
from slotchip.sums import add_long_product


def store_indexed(machine, n, m, i):
    regs = machine.regs
    machine.store((regs[0] + regs[n]) & MASK, 1 << (i & 3), regs[m])


def load_indexed(machine, n, m, i):
    regs = machine.regs
    regs[n] = machine.load((regs[0] + regs[m]) & MASK, 1 << (i & 3))


def multiply(machine, n, m, i):
    regs = machine.regs
    regs[MACL] = regs[n] * regs[m] & MASK


def read_control(machine, n, m, i):
    machine.regs[n] = machine.read(STATUS + m)


def read_system(machine, n, m, i):
    machine.regs[n] = machine.read(MACH + m)


def read_t(machine, n, m, i):
    machine.regs[n] = machine.t


def clear_t(machine, n, m, i):
    machine.t = 0


def raise_t(machine, n, m, i):
    machine.t = 1


def clear_sum(machine, n, m, i):
    machine.regs[MACH] = 0
    machine.regs[MACL] = 0


def do_nothing(machine, n, m, i):
    pass


def begin_unsigned_division(machine, n, m, i):
    machine.q = 0
    machine.m = 0
    machine.t = 0


def sleep(machine, n, m, i):
    machine.why = 6


BY_K = {
    0x4: store_indexed,
    0x5: store_indexed,
    0x6: store_indexed,
    0x7: multiply,
    0xC: load_indexed,
    0xD: load_indexed,
    0xE: load_indexed,
}

BY_I = {
    0x02: read_control,
    0x12: read_control,
    0x22: read_control,
    0x0A: read_system,
    0x1A: read_system,
    0x2A: read_system,
    0x29: read_t,
}

WHERE_N_IS_0 = {
    0x08: clear_t,
    0x18: raise_t,
    0x28: clear_sum,
    0x09: do_nothing,
    0x19: begin_unsigned_division,
    0x1B: sleep,
}


def act_of_group_0(n, i):
    if i & 15 == 15:
        return add_long_product
    if i & 15 in BY_K:
        return BY_K[i & 15]
    if i in BY_I:
        return BY_I[i]
    if n == 0:
        return WHERE_N_IS_0.get(i)
    return None
