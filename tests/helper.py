"""Lines of calls, what they answer, and checks of one instruction at a time."""

import unittest

from slotchip.chip import answers

STATUS, GBR, VBR, MACH, MACL, PR, PLACE = range(16, 23)
T, S, MASK, Q, M = 0x001, 0x002, 0x0F0, 0x100, 0x200
ALL = T | S | MASK | Q | M

NOP = 0x0009
TOP = 0xFFFFFFFF

# Where a single instruction stands, and where its numbers stand.
AT = 0x200
DATA = 0x300


def reset():
    return [0]


def put(which, value):
    return [1, which, value]


def get(which):
    return [2, which]


def run(steps, memory=()):
    return [3, steps, len(memory)] + list(memory)


def get_all():
    return [get(which) for which in range(23)]


def split(told):
    found = []
    at = 0
    while at < len(told):
        found.append(told[at + 1:at + 1 + told[at]])
        at += 1 + told[at]
    return found


def ask(*calls):
    """What each call answers, as one list for each; only what the interface lets through is handed in."""
    line = [number for call in calls for number in call]
    if len(calls) > 300 or len(line) > 30000 or any(call[0] == 3 and call[2] > 1024 for call in calls):
        raise ValueError("no such line of calls is handed in")
    return split(answers(line))


def big(value, size):
    """The bytes of a number, the highest first."""
    return list((value % 256 ** size).to_bytes(size, "big"))


def code(*words):
    return [byte for word in words for byte in big(word, 2)]


def laid(parts):
    """Memory's first bytes, from a dict of places and the bytes that stand there."""
    memory = [0] * max([place + len(row) for place, row in parts.items()], default=0)
    for place, row in parts.items():
        memory[place:place + len(row)] = row
    return memory


def pairs(changed):
    """What run tells of the bytes that are others now, from a dict like laid's."""
    bytes_now = {place + k: byte for place, row in changed.items() for k, byte in enumerate(row)}
    return [number for place in sorted(bytes_now) for number in (place, bytes_now[place])]


def ground(status=0, at=AT):
    """A state in which nothing is like anything else, so that what is left alone shows."""
    state = [0x8C5A1E37 + 0x01234567 * which & TOP for which in range(22)]
    state[STATUS] = status
    return state + [at]


def puts(state):
    return [put(which, state[which]) for which in range(23)]


class ChipCase(unittest.TestCase):
    maxDiff = None

    def do(self, word, status, before, memory, steps=1, at=AT):
        """Runs word, which stands at a place; answers the state before, run's answer and the state behind."""
        state = ground(status, at)
        for which, value in before.items():
            state[which] = value
        parts = dict(memory)
        parts[at] = code(word)
        told = ask(reset(), *puts(state), run(steps, laid(parts)), *get_all())
        return state, told[24], [row[1] for row in told[25:]]

    def check(self, word, before=None, after=None, t=None, memory=None, changed=None, status=None, at=AT):
        """One step changes what is told (registers, T, bytes, the place) and leaves everything else."""
        for conditions in ((0, ALL) if status is None else (status,)):
            with self.subTest(word=f"{word:04X}", conditions=conditions, before=before):
                state, ran, now = self.do(word, conditions, before or {}, memory or {}, at=at)
                expected = list(state)
                if t is not None:
                    expected[STATUS] = state[STATUS] & ~T | t
                expected[PLACE] = at + 2
                for which, value in (after or {}).items():
                    expected[which] = value
                told = pairs(changed or {})
                self.assertEqual(ran, [1, 0, len(told)] + told)
                self.assertEqual(now, expected)

    def check_stop(self, why, word, before=None, memory=None, status=0, at=AT):
        """One step stops the run, and nothing is done."""
        with self.subTest(word=f"{word:04X}", why=why, before=before):
            state, ran, now = self.do(word, status, before or {}, memory or {}, at=at)
            self.assertEqual(ran, [0, why, 0])
            self.assertEqual(now, state)

    def check_jump(self, word, target, before=None, after=None, memory=None, status=0, at=AT):
        """A jump: first the place behind it, and from there to the target."""
        behind = dict(after or {})
        behind[PLACE] = at + 2
        self.check(word, before, behind, memory=memory, status=status, at=at)
        with self.subTest(word=f"{word:04X}", target=target):
            parts = dict(memory or {})
            parts[at + 2] = code(NOP)
            now = self.do(word, status, before or {}, parts, steps=2, at=at)[2]
            self.assertEqual(now[PLACE], target)

    def check_leap(self, word, target, status, at=AT):
        """A leap: to the target at once, and on from there."""
        self.check(word, after={PLACE: target}, status=status, at=at)
        with self.subTest(word=f"{word:04X}", target=target):
            now = self.do(word, status, {}, {target: code(NOP)}, steps=2, at=at)[2]
            self.assertEqual(now[PLACE], target + 2)
