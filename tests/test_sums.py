"""Rows ADDS, SUBS, MOVS, CMP with registers and numbers, and the sixteen of Rd and Rm but shifts."""

import unittest

from chip import ChipCase, bits

OF_REGISTERS = "000110 S mmm nnn ddd"
OF_NUMBER = "000111 S iii nnn ddd"
WITH_BYTE = "001 oo ddd iiiiiiii"
OF_TWO = "010000 oooo mmm ddd"
ANDS, EORS, ADCS, SBCS, TST, RSBS, CMP, CMN, ORRS, MULS, BICS, MVNS = 0, 1, 5, 6, 8, 9, 10, 11, 12, 13, 14, 15
ENDS = (0, 1, 2, 0x7FFFFFFE, 0x7FFFFFFF, 0x80000000, 0x80000001, 0xFFFFFFFE, 0xFFFFFFFF)

SUMS = (
    (1, 2, 3, ""),
    (0, 0, 0, "Z"),
    (0xFFFFFFFF, 1, 0, "ZC"),
    (0xFFFFFFFF, 0xFFFFFFFF, 0xFFFFFFFE, "NC"),
    (0x7FFFFFFF, 1, 0x80000000, "NV"),
    (0x7FFFFFFF, 0x7FFFFFFF, 0xFFFFFFFE, "NV"),
    (0x80000000, 0x80000000, 0, "ZCV"),
    (0x80000000, 0xFFFFFFFF, 0x7FFFFFFF, "CV"),
    (0x80000000, 0x7FFFFFFF, 0xFFFFFFFF, "N"),
)
DIFFERENCES = (
    (5, 3, 2, "C"),
    (3, 5, 0xFFFFFFFE, "N"),
    (7, 7, 0, "ZC"),
    (0, 0, 0, "ZC"),
    (0, 1, 0xFFFFFFFF, "N"),
    (0x80000000, 1, 0x7FFFFFFF, "CV"),
    (0x7FFFFFFF, 0xFFFFFFFF, 0x80000000, "NV"),
    (0, 0x80000000, 0x80000000, "NV"),
    (0xFFFFFFFF, 0x7FFFFFFF, 0x80000000, "NC"),
    (0xFFFFFFFF, 0xFFFFFFFF, 0, "ZC"),
)


def signed(number):
    return number - 2 ** 32 if number >= 2 ** 31 else number


def sum_and_flags(a, b, carry):
    """A sum by the words of the document: the carry of 32 bits, and whether the sign is wrong."""
    result = (a + b + carry) % 2 ** 32
    letters = "N" if result >= 2 ** 31 else ""
    letters += "Z" if result == 0 else ""
    letters += "C" if a + b + carry >= 2 ** 32 else ""
    letters += "V" if signed(a) + signed(b) + carry != signed(result) else ""
    return result, letters


class OfThree(ChipCase):
    def test_adds_registers(self):
        for a, b, result, behind in SUMS:
            for before in ("", "NZCV"):
                self.step(bits(OF_REGISTERS, S=0, m=7, n=4, d=0), {4: a, 7: b}, before, {0: result}, behind)

    def test_subs_registers(self):
        for a, b, result, behind in DIFFERENCES:
            for before in ("", "NZCV"):
                self.step(bits(OF_REGISTERS, S=1, m=7, n=4, d=0), {4: a, 7: b}, before, {0: result}, behind)

    def test_one_register_thrice(self):
        self.step(bits(OF_REGISTERS, S=0, m=3, n=3, d=3), {3: 0x80000001}, "", {3: 2}, "CV")
        self.step(bits(OF_REGISTERS, S=1, m=3, n=3, d=3), {3: 0x80000001}, "", {3: 0}, "ZC")

    def test_adds_number(self):
        row = "000111 0 iii nnn ddd"
        self.step(bits(row, i=7, n=1, d=2), {1: 10}, "NZCV", {2: 17}, "")
        self.step(bits(row, i=0, n=1, d=2), {1: 0}, "NCV", {2: 0}, "Z")
        self.step(bits(row, i=1, n=1, d=2), {1: 0x7FFFFFFF}, "", {2: 0x80000000}, "NV")
        self.step(bits(row, i=7, n=1, d=1), {1: 0xFFFFFFF9}, "", {1: 0}, "ZC")

    def test_subs_number(self):
        self.step(bits(OF_NUMBER, S=1, i=7, n=1, d=2), {1: 10}, "NZV", {2: 3}, "C")
        self.step(bits(OF_NUMBER, S=1, i=0, n=1, d=2), {1: 0}, "", {2: 0}, "ZC")
        self.step(bits(OF_NUMBER, S=1, i=1, n=1, d=2), {1: 0}, "C", {2: 0xFFFFFFFF}, "N")
        self.step(bits(OF_NUMBER, S=1, i=1, n=1, d=1), {1: 0x80000000}, "", {1: 0x7FFFFFFF}, "CV")


class WithByte(ChipCase):
    def test_movs(self):
        self.step(bits(WITH_BYTE, o=0, d=7, i=255), None, "NZCV", {7: 255}, "CV")
        self.step(bits(WITH_BYTE, o=0, d=7, i=0), None, "N", {7: 0}, "Z")
        self.step(bits(WITH_BYTE, o=0, d=0, i=128), None, "", {0: 128}, "")

    def test_cmp(self):
        self.step(bits(WITH_BYTE, o=1, d=3, i=255), {3: 255}, "NV", None, "ZC")
        self.step(bits(WITH_BYTE, o=1, d=3, i=255), {3: 254}, "ZCV", None, "N")
        self.step(bits(WITH_BYTE, o=1, d=3, i=1), {3: 0x80000000}, "", None, "CV")
        self.step(bits(WITH_BYTE, o=1, d=3, i=0), {3: 0}, "", None, "ZC")

    def test_adds(self):
        self.step(bits(WITH_BYTE, o=2, d=3, i=255), {3: 0xFFFFFF01}, "", {3: 0}, "ZC")
        self.step(bits(WITH_BYTE, o=2, d=3, i=255), {3: 0x7FFFFF01}, "C", {3: 0x80000000}, "NV")
        self.step(bits(WITH_BYTE, o=2, d=3, i=0), {3: 9}, "NZCV", {3: 9}, "")

    def test_subs(self):
        self.step(bits(WITH_BYTE, o=3, d=3, i=255), {3: 255}, "", {3: 0}, "ZC")
        self.step(bits(WITH_BYTE, o=3, d=3, i=255), {3: 0}, "ZC", {3: 0xFFFFFF01}, "N")
        self.step(bits(WITH_BYTE, o=3, d=3, i=255), {3: 0x800000FE}, "", {3: 0x7FFFFFFF}, "CV")


class OfTwo(ChipCase):
    def two(self, o, a, b, result, before, behind):
        """result is None where Rd stays."""
        after = {} if result is None else {3: result}
        self.step(bits(OF_TWO, o=o, m=6, d=3), {3: a, 6: b}, before, after, behind)

    def test_ands_and_tst(self):
        for o, leaves in ((ANDS, False), (TST, True)):
            self.two(o, 0xF0F0F0F0, 0x80FF00FF, None if leaves else 0x80F000F0, "ZCV", "NCV")
            self.two(o, 0x0F0F0F0F, 0xF0F0F0F0, None if leaves else 0, "N", "Z")
            self.two(o, 3, 6, None if leaves else 2, "NZC", "C")

    def test_eors(self):
        self.two(EORS, 0xF0F0F0F0, 0x0FFF00FF, 0xFF0FF00F, "ZC", "NC")
        self.two(EORS, 0x12345678, 0x12345678, 0, "V", "ZV")

    def test_orrs(self):
        self.two(ORRS, 0x80000000, 1, 0x80000001, "Z", "N")
        self.two(ORRS, 0, 0, 0, "NCV", "ZCV")
        self.two(ORRS, 5, 2, 7, "NZ", "")

    def test_bics(self):
        self.two(BICS, 0xFFFFFFFF, 0x0000FFFF, 0xFFFF0000, "ZV", "NV")
        self.two(BICS, 0x12345678, 0xFFFFFFFF, 0, "NC", "ZC")

    def test_mvns(self):
        self.two(MVNS, 77, 0, 0xFFFFFFFF, "ZCV", "NCV")
        self.two(MVNS, 77, 0xFFFFFFFF, 0, "N", "Z")
        self.two(MVNS, 77, 0x80000000, 0x7FFFFFFF, "NZ", "")

    def test_muls(self):
        self.two(MULS, 6, 7, 42, "NZCV", "CV")
        self.two(MULS, 0x10000, 0x10000, 0, "N", "Z")
        self.two(MULS, 0xFFFFFFFF, 0xFFFFFFFF, 1, "NZ", "")
        self.two(MULS, 0xFFFFFFFF, 3, 0xFFFFFFFD, "C", "NC")

    def test_cmp_and_cmn(self):
        for a, b, result, behind in DIFFERENCES:
            self.two(CMP, a, b, None, "", behind)
            self.two(CMP, a, b, None, "NZCV", behind)
        for a, b, result, behind in SUMS:
            self.two(CMN, a, b, None, "", behind)
            self.two(CMN, a, b, None, "NZCV", behind)

    def test_rsbs(self):
        self.two(RSBS, 9, 1, 0xFFFFFFFF, "ZCV", "N")
        self.two(RSBS, 9, 0, 0, "", "ZC")
        self.two(RSBS, 9, 0x80000000, 0x80000000, "", "NV")
        self.two(RSBS, 9, 0xFFFFFFFF, 1, "C", "")

    def test_adcs(self):
        self.two(ADCS, 1, 2, 3, "", "")
        self.two(ADCS, 1, 2, 4, "C", "")
        self.two(ADCS, 0xFFFFFFFF, 0, 0, "C", "ZC")
        self.two(ADCS, 0xFFFFFFFF, 0xFFFFFFFF, 0xFFFFFFFF, "C", "NC")
        self.two(ADCS, 0x7FFFFFFF, 0, 0x80000000, "C", "NV")
        self.two(ADCS, 0x80000000, 0xFFFFFFFF, 0x80000000, "C", "NC")

    def test_sbcs(self):
        self.two(SBCS, 5, 3, 2, "C", "C")
        self.two(SBCS, 5, 3, 1, "", "C")
        self.two(SBCS, 5, 5, 0xFFFFFFFF, "", "N")
        self.two(SBCS, 5, 5, 0, "C", "ZC")
        self.two(SBCS, 0, 0xFFFFFFFF, 0, "", "Z")
        self.two(SBCS, 0x80000000, 0, 0x7FFFFFFF, "", "CV")

    def test_sums_at_the_ends(self):
        for a in ENDS:
            for b in ENDS:
                for c in (0, 1):
                    before = "CV" if c else "NZ"
                    self.two(ADCS, a, b, *self.framed(sum_and_flags(a, b, c), before))
                    self.two(SBCS, a, b, *self.framed(sum_and_flags(a, 0xFFFFFFFF - b, c), before))
                self.two(CMP, a, b, None, "", sum_and_flags(a, 0xFFFFFFFF - b, 1)[1])
                self.two(CMN, a, b, None, "", sum_and_flags(a, b, 0)[1])

    def framed(self, wanted, before):
        return wanted[0], before, wanted[1]

    def test_one_register_twice(self):
        self.step(bits(OF_TWO, o=SBCS, m=2, d=2), {2: 9}, "", {2: 0xFFFFFFFF}, "N")
        self.step(bits(OF_TWO, o=MULS, m=2, d=2), {2: 9}, "", {2: 81}, "")
        self.step(bits(OF_TWO, o=RSBS, m=2, d=2), {2: 9}, "", {2: 0xFFFFFFF7}, "N")


if __name__ == "__main__":
    unittest.main()
