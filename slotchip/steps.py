"""Running: instruction after instruction, till there have been enough or one stops it."""

from slotchip.bits import MASK
from slotchip.machine import SIZE, BehindJump, NoInstruction, NotMultiple, NotWithin
from slotchip.words import meaning


# One function for the whole step, since a run may have a million of them and each call within costs its time.
def step(machine):
    place = machine.place
    if place & 1:
        raise NotMultiple()
    if place >= SIZE:
        raise NotWithin()
    word = machine.memory[place] << 8 | machine.memory[place + 1]
    known = machine.known.get(word)
    if known is None:
        known = meaning(word)
        machine.known[word] = known
    if known[4] and machine.waiting:
        raise BehindJump()
    act = known[0]
    target = act(machine, known[1], known[2], known[3])
    machine.place = machine.follow
    if target is None:
        machine.follow = (machine.place + 2) & MASK
        machine.waiting = False
    else:
        machine.follow = target
        machine.waiting = True


def do_steps(machine, steps):
    done = 0
    try:
        while done < steps and machine.why == 0:
            step(machine)
            done += 1
    except NoInstruction:
        machine.why = 1
    except BehindJump:
        machine.why = 2
    except NotMultiple:
        machine.why = 3
    except NotWithin:
        machine.why = 4
    return done


def changed_bytes(machine, first):
    told = []
    for four in sorted(machine.touched):
        for place in range(4 * four, 4 * four + 4):
            before = first[place] if place < len(first) else 0
            if machine.memory[place] != before:
                told.append(place)
                told.append(machine.memory[place])
    return told


def run(machine, steps, first):
    machine.begin(first)
    done = do_steps(machine, steps)
    told = changed_bytes(machine, first)
    return [done, machine.why, len(told)] + told
