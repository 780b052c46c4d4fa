"""The groups that are one instruction each and may stand behind a jump: 1, 5, 7 and E."""

from slotchip.bits import MASK, signed


def store_with_offset(machine, n, m, i):
    regs = machine.regs
    machine.store((regs[n] + 4 * (i & 15)) & MASK, 4, regs[m])


def load_with_offset(machine, n, m, i):
    regs = machine.regs
    regs[n] = machine.load((regs[m] + 4 * (i & 15)) & MASK, 4)


def add_number(machine, n, m, i):
    machine.regs[n] = (machine.regs[n] + signed(i, 8)) & MASK


def take_number(machine, n, m, i):
    machine.regs[n] = signed(i, 8) & MASK


BY_GROUP = {0x1: store_with_offset, 0x5: load_with_offset, 0x7: add_number, 0xE: take_number}


def act_of_whole_group(group):
    return BY_GROUP.get(group)
