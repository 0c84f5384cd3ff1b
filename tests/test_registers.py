"""Rows ADD, CMP, MOV of high registers; ADD with PC or SP; ADD, SUB SP; extensions; turned bytes."""

import unittest

from chip import START, ChipCase, bits

ADD = "010001 00 D mmmm ddd"
CMP = "010001 01 D mmmm ddd"
MOV = "010001 10 D mmmm ddd"
PLACE = "1010 S ddd iiiiiiii"
STACK = "10110000 S iiiiiii"
EXTENSION = "10110010 oo mmm ddd"
TURN = "10111010 oo mmm ddd"
SP, LR, PC = 13, 14, 15


def high(row, d, m):
    return bits(row, D=d >> 3, m=m, d=d & 7)


class High(ChipCase):
    def test_add(self):
        self.step(high(ADD, 9, 2), {9: 5, 2: 7}, "NZCV", {9: 12})
        self.step(high(ADD, 2, 9), {9: 5, 2: 7}, "", {2: 12})
        self.step(high(ADD, 1, 2), {1: 5, 2: 7}, "", {1: 12})
        self.step(high(ADD, 8, 8), {8: 0x80000001}, "", {8: 2})
        self.step(high(ADD, 14, 3), {14: 0xFFFFFFFF, 3: 2}, "", {14: 1})

    def test_add_reads_r15_and_sp(self):
        self.step(high(ADD, 3, PC), {3: 0x10}, "", {3: START + 0x14})
        self.step(high(ADD, 12, PC), {12: 0}, "", {12: 0x202 + 4}, at=0x202)
        self.step(high(ADD, 4, SP), {4: 3}, "", {4: 0x8003})

    def test_add_writes_r15(self):
        for value, place in ((0x20, START + 0x24), (0x21, START + 0x24), (0xFFFFFFFC, START), (0x80000000, 0x80000104)):
            self.step(high(ADD, PC, 6), {6: value}, "C", {PC: place})
        self.step(high(ADD, PC, SP), {SP: 0x40}, "", {PC: START + 0x44})
        self.step(high(ADD, PC, 6), {6: 0xFFFFFFFF - START}, "", {PC: 2})

    def test_add_writes_sp(self):
        for value, place in ((4, 0x8004), (1, 0x8000), (2, 0x8000), (3, 0x8000), (0xFFFF8000, 0), (7, 0x8004)):
            self.step(high(ADD, SP, 10), {10: value}, "ZC", {SP: place})
        self.step(high(ADD, SP, PC), None, "", {SP: 0x8000 + 0x204}, at=0x202)
        self.step(high(ADD, SP, SP), None, "", {SP: 0x10000})

    def test_add_of_r15_to_r15_is_none(self):
        self.undone(high(ADD, PC, PC), 1)

    def test_cmp(self):
        for d, m in ((8, 0), (0, 8), (12, 11), (SP, 1), (1, SP), (LR, SP)):
            self.step(high(CMP, d, m), {d: 0x8000, m: 0x4000}, "NZV", None, "C")
            self.step(high(CMP, d, m), {d: 0x4000, m: 0x8000}, "ZCV", None, "N")
            self.step(high(CMP, d, m), {d: 0x4000, m: 0x4000}, "NV", None, "ZC")
            self.step(high(CMP, d, m), {d: 0x80000000, m: 4}, "", None, "CV")
        self.step(high(CMP, 9, 9), None, "N", None, "ZC")

    def test_cmp_that_is_none(self):
        for d in range(8):
            for m in range(8):
                self.undone(high(CMP, d, m), 1)
        for k in range(16):
            self.undone(high(CMP, PC, k), 1)
            self.undone(high(CMP, k, PC), 1)

    def test_mov(self):
        self.step(high(MOV, 9, 2), {2: 0}, "NCV", {9: 0})
        self.step(high(MOV, 2, 9), {9: 0x80000000}, "Z", {2: 0x80000000})
        self.step(high(MOV, 1, 2), {2: 7}, "NZCV", {1: 7})
        self.step(high(MOV, LR, SP), None, "", {LR: 0x8000})
        self.step(high(MOV, 8, 8), None, "", None)

    def test_mov_reads_r15(self):
        self.step(high(MOV, 0, PC), None, "", {0: START + 4})
        self.step(high(MOV, 0, PC), None, "", {0: 0x206}, at=0x202)
        self.step(high(MOV, SP, PC), None, "", {SP: 0x204}, at=0x202)
        self.step(high(MOV, PC, PC), None, "", {PC: 0x206}, at=0x202)

    def test_mov_writes_r15(self):
        for value, place in ((0x300, 0x300), (0x301, 0x300), (0xFFFFFFFF, 0xFFFFFFFE), (3, 2), (0x10000, 0x10000)):
            self.step(high(MOV, PC, 5), {5: value}, "NZ", {PC: place})
        self.step(high(MOV, PC, LR), {LR: 0x403}, "", {PC: 0x402})

    def test_mov_writes_sp(self):
        for value, place in ((0x300, 0x300), (0x301, 0x300), (0x302, 0x300), (0x303, 0x300), (0xFFFFFFFF, 0xFFFFFFFC)):
            self.step(high(MOV, SP, 5), {5: value}, "V", {SP: place})


class WithPlaces(ChipCase):
    def test_add_of_pc(self):
        self.step(bits(PLACE, S=0, d=6, i=0), None, "NZ", {6: START + 4})
        self.step(bits(PLACE, S=0, d=6, i=255), None, "", {6: START + 4 + 1020})
        self.step(bits(PLACE, S=0, d=6, i=1), None, "", {6: 0x208}, at=0x202)
        self.step(bits(PLACE, S=0, d=0, i=255), None, "", {0: 0x10000 + 1020}, at=0xFFFE)

    def test_add_of_sp(self):
        self.step(bits(PLACE, S=1, d=6, i=0), None, "CV", {6: 0x8000})
        self.step(bits(PLACE, S=1, d=6, i=255), None, "", {6: 0x8000 + 1020})
        self.step(bits(PLACE, S=1, d=6, i=2), {SP: 0xFFFFFFFC}, "", {6: 4})

    def test_sp_raised_and_lowered(self):
        self.step(bits(STACK, S=0, i=127), None, "NZCV", {SP: 0x8000 + 508})
        self.step(bits(STACK, S=0, i=0), None, "", None)
        self.step(bits(STACK, S=0, i=1), {SP: 0xFFFFFFFC}, "", {SP: 0})
        self.step(bits(STACK, S=1, i=127), None, "", {SP: 0x8000 - 508})
        self.step(bits(STACK, S=1, i=0), None, "", None)
        self.step(bits(STACK, S=1, i=1), {SP: 0}, "", {SP: 0xFFFFFFFC})


class OfOne(ChipCase):
    def one(self, row, o, value, result):
        self.step(bits(row, o=o, m=5, d=2), {5: value}, "NZ", {2: result})
        self.step(bits(row, o=o, m=5, d=5), {5: value}, "CV", {5: result})

    def test_sxth(self):
        self.one(EXTENSION, 0, 0x12347FFF, 0x7FFF)
        self.one(EXTENSION, 0, 0x12348000, 0xFFFF8000)
        self.one(EXTENSION, 0, 0xFFFF0000, 0)

    def test_sxtb(self):
        self.one(EXTENSION, 1, 0x1234FF7F, 0x7F)
        self.one(EXTENSION, 1, 0x12340080, 0xFFFFFF80)
        self.one(EXTENSION, 1, 0xFF, 0xFFFFFFFF)

    def test_uxth(self):
        self.one(EXTENSION, 2, 0x1234FFFF, 0xFFFF)
        self.one(EXTENSION, 2, 0xFFFF0000, 0)

    def test_uxtb(self):
        self.one(EXTENSION, 3, 0x123456FF, 0xFF)
        self.one(EXTENSION, 3, 0xFFFFFF00, 0)

    def test_rev(self):
        self.one(TURN, 0, 0x12345678, 0x78563412)
        self.one(TURN, 0, 0xFF, 0xFF000000)
        self.one(TURN, 0, 0xFF00, 0xFF0000)
        self.one(TURN, 0, 0x01FF01FF, 0xFF01FF01)
        self.one(TURN, 0, 0, 0)

    def test_rev16(self):
        self.one(TURN, 1, 0x12345678, 0x34127856)
        self.one(TURN, 1, 0xFF0000FF, 0x00FFFF00)
        self.one(TURN, 1, 0x00FFFF00, 0xFF0000FF)

    def test_revsh(self):
        self.one(TURN, 3, 0x12345678, 0x7856)
        self.one(TURN, 3, 0x12345680, 0xFFFF8056)
        self.one(TURN, 3, 0x1234807F, 0x7F80)
        self.one(TURN, 3, 0xFFFF00FF, 0xFFFFFF00)
        self.one(TURN, 3, 0xFFFF01FF, 0xFFFFFF01)
        self.one(TURN, 3, 0xFFFFFF00, 0xFF)

    def test_the_turn_that_is_none(self):
        self.undone(bits(TURN, o=2, m=5, d=2), 1)


if __name__ == "__main__":
    unittest.main()
