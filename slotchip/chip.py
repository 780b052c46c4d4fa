"""The calls on one machine, told in one list, and what they answer."""

from slotchip.machine import PLACE, Machine
from slotchip.steps import run

RESET = 0
SET = 1
GET = 2

REFUSED = -2
MOST_STEPS = 1000000


def answer_set(machine, which, value):
    if which < 0 or which > PLACE:
        return [REFUSED]
    machine.write(which, value)
    return [0]


def answer_get(machine, which):
    if which < 0 or which > PLACE:
        return [REFUSED]
    return [0, machine.read(which)]


def answer_run(machine, steps, first):
    if steps < 0 or steps > MOST_STEPS:
        return [REFUSED]
    return run(machine, steps, first)


def answers(calls):
    machine = Machine()
    told = []
    at = 0
    while at < len(calls):
        call = calls[at]
        if call == RESET:
            machine = Machine()
            answer = [0]
            at += 1
        elif call == SET:
            answer = answer_set(machine, calls[at + 1], calls[at + 2])
            at += 3
        elif call == GET:
            answer = answer_get(machine, calls[at + 1])
            at += 2
        else:
            end = at + 3 + calls[at + 2]
            answer = answer_run(machine, calls[at + 1], calls[at + 3:end])
            at = end
        told.append(len(answer))
        told.extend(answer)
    return told
