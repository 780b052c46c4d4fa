"""Which words are instructions: everything else is 1."""

import unittest

from tests.helper import PLACE, ask, code, put, reset, run

# A digit stands for itself, a letter from n to z for any half of a byte.
FORMS = (
    "0nm4 0nm5 0nm6 0nm7 0nmC 0nmD 0nmE 0nmF 0n02 0n12 0n22 0n0A 0n1A 0n2A 0n29 0n03 0n23 "
    "0008 0018 0028 0009 0019 000B 001B 002B 1nmx "
    "2nm0 2nm1 2nm2 2nm4 2nm5 2nm6 2nm7 2nm8 2nm9 2nmA 2nmB 2nmC 2nmD 2nmE 2nmF "
    "3nm0 3nm2 3nm3 3nm4 3nm5 3nm6 3nm7 3nm8 3nmA 3nmB 3nmC 3nmD 3nmE 3nmF "
    "4nmF 4n00 4n20 4n01 4n21 4n04 4n05 4n24 4n25 4n08 4n18 4n28 4n09 4n19 4n29 4n10 4n11 4n15 "
    "4n02 4n12 4n22 4n03 4n13 4n23 4n06 4n16 4n26 4n07 4n17 4n27 4n0A 4n1A 4n2A 4n0E 4n1E 4n2E 4n1B 4n0B 4n2B "
    "5nmx 6nmx 7nmx 80mx 81mx 84mx 85mx 88mx 89mx 8Bmx 8Dmx 8Fmx 9nmx Anmx Bnmx Cnmx Dnmx Enmx").split()


def is_instruction(word):
    digits = f"{word:04X}"
    return any(all(sign in "nmx" or sign == digit for sign, digit in zip(form, digits)) for form in FORMS)


def asked(words):
    """Why a run of one step stops, for each word alone."""
    found = []
    for begin in range(0, len(words), 140):
        part = words[begin:begin + 140]
        told = ask(reset(), *[call for word in part for call in (put(PLACE, 0), run(1, code(word)))])
        found.extend(row[1] for row in told[2::2])
    return found


class Words(unittest.TestCase):
    def check(self, words):
        missing = [f"{word:04X}" for word in words if not is_instruction(word)]
        found = [f"{word:04X}" for word, why in zip(words, asked(words)) if why == 1]
        self.assertEqual(found, missing)

    def test_groups_by_i(self):
        for group in (0x0, 0x4):
            for n in (0, 1, 8, 15):
                self.check([group << 12 | n << 8 | i for i in range(256)])

    def test_groups_by_k(self):
        for group in (0x1, 0x2, 0x3, 0x5, 0x6, 0xF):
            self.check([group << 12 | n << 8 | m << 4 | k for n in (0, 3, 15) for m in (0, 3, 15) for k in range(16)])

    def test_groups_by_n(self):
        for group in (0x7, 0x8, 0x9, 0xA, 0xB, 0xC, 0xD, 0xE, 0xF):
            self.check([group << 12 | n << 8 | i for n in range(16) for i in (0x00, 0x01, 0x39, 0x7F, 0x80, 0xFF)])


if __name__ == "__main__":
    unittest.main()
