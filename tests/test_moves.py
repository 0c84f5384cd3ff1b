"""Rows LDR [PC, i]; loads and stores by registers, by numbers and by SP."""

import unittest

from chip import START, ChipCase, bits, lowest_bytes, words

FROM_PC = "01001 ttt iiiiiiii"
BY_REGISTER = "0101 ooo mmm nnn ttt"
BY_SP = "1001 L ttt iiiiiiii"
STR, STRH, STRB, LDRSB, LDR, LDRH, LDRB, LDRSH = range(8)
STORES = ((STR, 4), (STRH, 2), (STRB, 1))
LOADS = ((LDRSB, 1), (LDR, 4), (LDRH, 2), (LDRB, 1), (LDRSH, 2))
NUMBERED = (("0110", 4), ("0111", 1), ("1000", 2))
SP = 13


def row(highest, bit):
    return f"{highest} {bit} iiiii nnn ttt"


class FromProgram(ChipCase):
    def test_ordinary(self):
        memory = words(START + 4, 0x80000001, 0x11223344)
        self.step(bits(FROM_PC, t=3, i=0), None, "NZCV", {3: 0x80000001}, memory=memory)
        self.step(bits(FROM_PC, t=3, i=1), None, "", {3: 0x11223344}, memory=memory)
        self.step(bits(FROM_PC, t=3, i=0), None, "", {3: 0x80000001}, memory=memory, at=START + 2)
        self.step(bits(FROM_PC, t=0, i=255), None, "", {0: 7}, memory=words(START + 4 + 1020, 7))

    def test_at_the_end_of_memory(self):
        memory = words(0xFFFC, 0xCAFEBABE)
        self.step(bits(FROM_PC, t=3, i=0), None, "", {3: 0xCAFEBABE}, memory=memory, at=0xFFF8)
        self.step(bits(FROM_PC, t=3, i=0), None, "", {3: 0xCAFEBABE}, memory=memory, at=0xFFFA)
        self.undone(bits(FROM_PC, t=3, i=1), 2, at=0xFFF8)
        self.undone(bits(FROM_PC, t=3, i=0), 2, at=0xFFFC)
        self.undone(bits(FROM_PC, t=3, i=0), 2, at=0xFFFE)


class ByRegister(ChipCase):
    def load(self, o, place, result, memory):
        half = bits(BY_REGISTER, o=o, m=1, n=2, t=3)
        self.step(half, {1: 4, 2: place - 4 & 0xFFFFFFFF}, "NZ", {3: result}, memory=memory)
        self.step(half, {1: place - 8 & 0xFFFFFFFF, 2: 8}, "CV", {3: result}, memory=memory)

    def store(self, o, size, place, value):
        half = bits(BY_REGISTER, o=o, m=1, n=2, t=3)
        regs = {1: 4, 2: place - 4 & 0xFFFFFFFF, 3: value}
        self.step(half, regs, "NZ", None, changes=lowest_bytes(place, value, size))

    def test_loads(self):
        memory = words(0x2000, 0x817F80F1, 0x12345678)
        self.load(LDR, 0x2000, 0x817F80F1, memory)
        self.load(LDR, 0x2004, 0x12345678, memory)
        self.load(LDRH, 0x2000, 0x80F1, memory)
        self.load(LDRH, 0x2002, 0x817F, memory)
        self.load(LDRSH, 0x2000, 0xFFFF80F1, memory)
        self.load(LDRSH, 0x2004, 0x5678, memory)
        self.load(LDRB, 0x2000, 0xF1, memory)
        self.load(LDRB, 0x2003, 0x81, memory)
        self.load(LDRSB, 0x2001, 0xFFFFFF80, memory)
        self.load(LDRSB, 0x2002, 0x7F, memory)

    def test_stores(self):
        for o, size in STORES:
            self.store(o, size, 0x2004, 0x817263F4)
        self.store(STRH, 2, 0x2006, 0x817263F4)
        self.store(STRB, 1, 0x2007, 0x817263F4)

    def test_at_0_and_at_the_end(self):
        memory = {**words(0, 0xA1A2A3A4), **words(0xFFFC, 0xB1B2B3B4)}
        self.load(LDR, 0, 0xA1A2A3A4, memory)
        self.load(LDR, 0xFFFC, 0xB1B2B3B4, memory)
        self.load(LDRH, 0xFFFE, 0xB1B2, memory)
        self.load(LDRSH, 0, 0xFFFFA3A4, memory)
        self.load(LDRSH, 0xFFFE, 0xFFFFB1B2, memory)
        self.load(LDRB, 0xFFFF, 0xB1, memory)
        self.load(LDRSB, 0xFFFF, 0xFFFFFFB1, memory)
        for o, size in STORES:
            self.store(o, size, 0, 0x11121314)
            self.store(o, size, 0x10000 - size, 0x11121314)

    def test_places_that_are_none(self):
        for o, size in STORES + LOADS:
            for place in (0x10000, 0x10002, 0xFFFFFFFC, 0xFFFFFFFF, 0x80000000, 0x12000):
                self.undone(bits(BY_REGISTER, o=o, m=1, n=2, t=3), 2, {1: 0, 2: place})
            for off in range(1, size):
                for place in (0x2000 + off, 0x10000 - size + off, off):
                    self.undone(bits(BY_REGISTER, o=o, m=1, n=2, t=3), 2, {1: place, 2: 0})

    def test_a_sum_of_32_bits(self):
        self.step(bits(BY_REGISTER, o=LDR, m=1, n=2, t=3), {1: 0x80002000, 2: 0x80000000}, "", {3: 9},
                  memory=words(0x2000, 9))

    def test_one_register_thrice(self):
        self.step(bits(BY_REGISTER, o=LDR, m=3, n=3, t=3), {3: 0x1000}, "", {3: 9}, memory=words(0x2000, 9))
        self.step(bits(BY_REGISTER, o=STR, m=3, n=3, t=3), {3: 0x1010}, "", None, changes={0x2020: 0x10, 0x2021: 0x10})


class ByNumber(ChipCase):
    def test_stores(self):
        for highest, size in NUMBERED:
            for i in (0, 1, 31):
                half = bits(row(highest, 0), i=i, n=4, t=6)
                place = 0x2000 + size * i
                regs = {4: 0x2000, 6: 0x817263F4}
                self.step(half, regs, "NZCV", None, changes=lowest_bytes(place, 0x817263F4, size))

    def test_loads(self):
        for highest, size in NUMBERED:
            for i in (0, 1, 31):
                half = bits(row(highest, 1), i=i, n=4, t=6)
                memory = words(0x2000 + size * i & 0xFFFC, 0xF1F2F3F4)
                result = 0xF1F2F3F4 >> 8 * (size * i % 4) & 256 ** size - 1
                self.step(half, {4: 0x2000}, "NZCV", {6: result}, memory=memory)

    def test_at_the_ends(self):
        for highest, size in NUMBERED:
            regs = {4: 0x10000 - 32 * size, 6: 0x01020304}
            changes = lowest_bytes(0x10000 - size, 0x01020304, size)
            self.step(bits(row(highest, 0), i=31, n=4, t=6), regs, "", None, changes=changes)
            self.step(bits(row(highest, 1), i=31, n=4, t=6), regs, "", {6: 256 ** size - 1},
                      memory=words(0xFFFC, 0xFFFFFFFF))
            self.step(bits(row(highest, 1), i=0, n=4, t=6), {4: 0}, "", {6: 9}, memory=words(0, 9))
            self.step(bits(row(highest, 1), i=1, n=4, t=6), {4: 0xFFFFFFFF - size + 1}, "", {6: 9}, memory=words(0, 9))

    def test_places_that_are_none(self):
        for highest, size in NUMBERED:
            for bit in (0, 1):
                self.undone(bits(row(highest, bit), i=31, n=4, t=6), 2, {4: 0x10000 - 31 * size})
                self.undone(bits(row(highest, bit), i=0, n=4, t=6), 2, {4: 0xFFFFFFFF - size + 1})
                for off in range(1, size):
                    self.undone(bits(row(highest, bit), i=3, n=4, t=6), 2, {4: 0x2000 + off})

    def test_to_its_own_base(self):
        self.step(bits("0110 1 iiiii nnn ttt", i=1, n=5, t=5), {5: 0x2000}, "", {5: 8}, memory=words(0x2004, 8))
        self.step(bits("0110 0 iiiii nnn ttt", i=1, n=5, t=5), {5: 0x2000}, "", None, changes={0x2005: 0x20})


class BySp(ChipCase):
    def test_ordinary(self):
        for i in (0, 1, 255):
            place = 0x8000 + 4 * i
            self.step(bits(BY_SP, L=0, t=7, i=i), {7: 0x81828384}, "N", None, changes=words(place, 0x81828384))
            self.step(bits(BY_SP, L=1, t=7, i=i), None, "N", {7: 0x81828384}, memory=words(place, 0x81828384))

    def test_at_the_ends(self):
        self.step(bits(BY_SP, L=1, t=7, i=0), {SP: 0}, "", {7: 5}, memory=words(0, 5))
        self.step(bits(BY_SP, L=1, t=7, i=2), {SP: 0xFFFFFFF8}, "", {7: 5}, memory=words(0, 5))
        self.step(bits(BY_SP, L=1, t=7, i=255), {SP: 0x10000 - 1024}, "", {7: 5}, memory=words(0xFFFC, 5))
        for bit in (0, 1):
            self.undone(bits(BY_SP, L=bit, t=7, i=255), 2, {SP: 0x10000 - 1020})
            self.undone(bits(BY_SP, L=bit, t=7, i=0), 2, {SP: 0xFFFFFFFC})


if __name__ == "__main__":
    unittest.main()
