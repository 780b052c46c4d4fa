"""What mustn't stand behind a jump: jumps, leaps, the call of the system, and what reads or tells a place near P.

A jump gives back where it leads. A leap changes the next place instead, to which the step then goes on.
"""

from slotchip.bits import MASK, signed
from slotchip.machine import PR


def base(machine):
    return machine.place + 4


def long_base(machine):
    return base(machine) & 0xFFFFFFFC


def jump_by_register(machine, n, m, i):
    return (base(machine) + machine.regs[n]) & MASK


def call_by_register(machine, n, m, i):
    machine.regs[PR] = base(machine)
    return jump_by_register(machine, n, m, i)


def come_back(machine, n, m, i):
    return machine.regs[PR]


def come_back_with_status(machine, n, m, i):
    regs = machine.regs
    target = machine.load(regs[15], 4)
    status = machine.load((regs[15] + 4) & MASK, 4)
    regs[15] = (regs[15] + 8) & MASK
    machine.write_status(status)
    return target


def jump_to_register(machine, n, m, i):
    return machine.regs[n]


def call_to_register(machine, n, m, i):
    machine.regs[PR] = base(machine)
    return machine.regs[n]


def short_target(machine, i):
    return (base(machine) + 2 * signed(i, 8)) & MASK


def leap_where_1(machine, n, m, i):
    if machine.t == 1:
        machine.follow = short_target(machine, i)


def leap_where_0(machine, n, m, i):
    if machine.t == 0:
        machine.follow = short_target(machine, i)


def jump_where_1(machine, n, m, i):
    return short_target(machine, i) if machine.t == 1 else None


def jump_where_0(machine, n, m, i):
    return short_target(machine, i) if machine.t == 0 else None


def jump_by_number(machine, n, m, i):
    return (base(machine) + 2 * signed(n << 8 | i, 12)) & MASK


def call_by_number(machine, n, m, i):
    machine.regs[PR] = base(machine)
    return jump_by_number(machine, n, m, i)


def load_word(machine, n, m, i):
    machine.regs[n] = machine.load(base(machine) + 2 * i, 2)


def load_long(machine, n, m, i):
    machine.regs[n] = machine.load(long_base(machine) + 4 * i, 4)


def call_system(machine, n, m, i):
    machine.why = 5


def tell_place(machine, n, m, i):
    machine.regs[0] = long_base(machine) + 4 * i


BY_GROUP = {0x9: load_word, 0xA: jump_by_number, 0xB: call_by_number, 0xD: load_long}

BY_I_IN_0 = {0x03: call_by_register, 0x23: jump_by_register}

WHERE_N_IS_0_IN_0 = {0x0B: come_back, 0x2B: come_back_with_status}

BY_I_IN_4 = {0x0B: call_to_register, 0x2B: jump_to_register}

BY_N_IN_8 = {0x9: leap_where_1, 0xB: leap_where_0, 0xD: jump_where_1, 0xF: jump_where_0}

BY_N_IN_C = {0x3: call_system, 0x7: tell_place}


def bound_act(group, n, i):
    if group == 0x0 and n == 0 and i in WHERE_N_IS_0_IN_0:
        return WHERE_N_IS_0_IN_0[i]
    if group == 0x0:
        return BY_I_IN_0.get(i)
    if group == 0x4:
        return BY_I_IN_4.get(i)
    if group == 0x8:
        return BY_N_IN_8.get(n)
    if group == 0xC:
        return BY_N_IN_C.get(n)
    return BY_GROUP.get(group)
