"""Which instruction a word is."""

from slotchip.bound import bound_act
from slotchip.group0 import act_of_group_0
from slotchip.group2 import act_of_group_2
from slotchip.group3 import act_of_group_3
from slotchip.group4 import act_of_group_4
from slotchip.group6 import act_of_group_6
from slotchip.group8 import act_of_group_8
from slotchip.groupc import act_of_group_c
from slotchip.groups157e import act_of_whole_group
from slotchip.machine import NoInstruction


def free_act(group, n, i):
    if group == 0x0:
        return act_of_group_0(n, i)
    if group == 0x2:
        return act_of_group_2(i)
    if group == 0x3:
        return act_of_group_3(i)
    if group == 0x4:
        return act_of_group_4(i)
    if group == 0x6:
        return act_of_group_6(i)
    if group == 0x8:
        return act_of_group_8(n)
    if group == 0xC:
        return act_of_group_c(n)
    return act_of_whole_group(group)


# What is done; n, m and i; and whether it mustn't stand behind a jump.
def meaning(word):
    group = word >> 12
    n = word >> 8 & 15
    i = word & 255
    act = bound_act(group, n, i)
    if act is not None:
        return (act, n, i >> 4, i, True)
    act = free_act(group, n, i)
    if act is None:
        raise NoInstruction()
    return (act, n, i >> 4, i, False)
