"""Rows BX, BLX, B with a condition, B, BL, hints and barriers."""

import unittest

from chip import START, ChipCase, bits, flags

BX = "010001 11 L mmmm 000"
IF = "1101 cccc iiiiiiii"
B = "11100 iiiiiiiiiii"
BL_FIRST = "11110 S iiiiiiiiii"
BL_SECOND = "11 J 1 K iiiiiiiiiii"
HINT = "10111111 oooo 0000"
LETTERS = tuple("".join(letter for letter in "NZCV" if flags(letter) & k) for k in range(16))
SP, LR, PC = 13, 14, 15

CONDITIONS = (
    lambda n, z, c, v: z,
    lambda n, z, c, v: not z,
    lambda n, z, c, v: c,
    lambda n, z, c, v: not c,
    lambda n, z, c, v: n,
    lambda n, z, c, v: not n,
    lambda n, z, c, v: v,
    lambda n, z, c, v: not v,
    lambda n, z, c, v: c and not z,
    lambda n, z, c, v: not c or z,
    lambda n, z, c, v: n == v,
    lambda n, z, c, v: n != v,
    lambda n, z, c, v: not z and n == v,
    lambda n, z, c, v: z or n != v,
)


def bl(offset):
    """BL over so many bytes from R15 on, put together from its sign and the bits below it."""
    i = offset // 2 & 0xFFFFFF
    sign = i >> 23
    j = 1 - (i >> 22 & 1) ^ sign
    k = 1 - (i >> 21 & 1) ^ sign
    first = bits(BL_FIRST, S=sign, i=i >> 11 & 0x3FF)
    return [first, bits(BL_SECOND, J=j, K=k, i=i & 0x7FF)]


class ToRegisters(ChipCase):
    def test_bx(self):
        for m in [k for k in range(15) if k != SP]:
            self.step(bits(BX, L=0, m=m), {m: 0x2001}, "NZCV", {PC: 0x2000})
        self.step(bits(BX, L=0, m=3), {3: 0x2003}, "", {PC: 0x2002})
        self.step(bits(BX, L=0, m=3), {3: 1}, "", {PC: 0})
        self.step(bits(BX, L=0, m=3), {3: 0xFFFFFFFF}, "", {PC: 0xFFFFFFFE})
        self.step(bits(BX, L=0, m=3), {3: 0x10001}, "", {PC: 0x10000})

    def test_blx(self):
        for m in [k for k in range(15) if k != SP]:
            self.step(bits(BX, L=1, m=m), {m: 0x2001}, "NZCV", {PC: 0x2000, LR: START + 3})
        self.step(bits(BX, L=1, m=12), {12: 0xFFFFFFFF}, "", {PC: 0xFFFFFFFE, LR: 0xFFFF + 2}, at=0xFFFE)

    def test_without_the_lowest_bit(self):
        for bit in (0, 1):
            for value in (0, 0x2000, 0x2002, 0xFFFFFFFE):
                self.undone(bits(BX, L=bit, m=3), 2, {3: value})
                self.undone(bits(BX, L=bit, m=LR), 2, {LR: value})
            self.undone(bits(BX, L=bit, m=SP), 2)

    def test_r15_and_lowest_three_bits(self):
        for bit in (0, 1):
            self.undone(bits(BX, L=bit, m=PC), 1)
            for low in range(1, 8):
                self.undone(bits(BX, L=bit, m=3) | low, 1, {3: 0x2001})


class Conditional(ChipCase):
    def test_every_condition_under_all_flags(self):
        for c, is_met in enumerate(CONDITIONS):
            for k, letters in enumerate(LETTERS):
                met = is_met(k >> 3 & 1, k >> 2 & 1, k >> 1 & 1, k & 1)
                self.step(bits(IF, c=c, i=5), None, letters, {PC: START + (14 if met else 2)})

    def test_how_far(self):
        for i, place in ((0, 4), (127, 4 + 254), (-128, 4 - 256), (-1, 2), (-2, 0), (-3, -2)):
            self.step(bits(IF, c=0, i=i & 255), None, "Z", {PC: START + place})
            self.step(bits(IF, c=1, i=i & 255), None, "Z", {PC: START + 2})

    def test_out_of_memory(self):
        self.step(bits(IF, c=13, i=-3 & 255), None, "Z", {PC: 0xFFFFFFFE}, at=0)
        self.step(bits(IF, c=0, i=1), None, "Z", {PC: 0x10004}, at=0xFFFE)

    def test_the_fifteenth_is_none(self):
        for i in (0, 1, 0x80, 255):
            for letters in LETTERS:
                self.undone(bits(IF, c=14, i=i), 1, flag=letters)


class Always(ChipCase):
    def test_how_far(self):
        for i, place in ((0, 4), (1023, 4 + 2046), (-1024, 4 - 2048), (-1, 2), (-2, 0), (5, 14)):
            self.step(bits(B, i=i & 2047), None, "NZCV", {PC: 0x1000 + place}, at=0x1000)

    def test_out_of_memory(self):
        self.step(bits(B, i=-1024 & 2047), None, "", {PC: 0xFFFFF804}, at=0)
        self.step(bits(B, i=1023), None, "", {PC: 0x10000 + 2048}, at=0xFFFE)

    def test_for_ever(self):
        outcome = self.run_halves([bits(B, i=-2 & 2047)], 1000)
        self.assertEqual((outcome.steps, outcome.end, outcome.regs[15]), (1000, 0, START))


class Linked(ChipCase):
    def test_known_bits(self):
        self.step([0xF000, 0xF800], None, "NZCV", {PC: START + 4, LR: START + 5})
        self.step([0xF7FF, 0xFFFE], None, "", {PC: START, LR: START + 5})
        self.step([0xF000, 0xF801], None, "", {PC: START + 6, LR: START + 5})
        self.step([0xF400, 0xD000], None, "", {PC: START + 4 - 0x1000000 & 0xFFFFFFFF, LR: START + 5})

    def test_each_of_its_bits(self):
        for k in range(1, 24):
            for offset in (1 << k, -(1 << k)):
                self.step(bl(offset), None, "", {PC: 0x8004 + offset & 0xFFFFFFFF, LR: 0x8005}, at=0x8000)
        self.step(bl(-(1 << 24)), None, "", {PC: 0x8004 - (1 << 24) & 0xFFFFFFFF, LR: 0x8005}, at=0x8000)
        self.step(bl((1 << 24) - 2), None, "", {PC: 0x8004 + (1 << 24) - 2, LR: 0x8005}, at=0x8000)

    def test_j_and_k_by_the_sign(self):
        for sign, j, k, offset in (
            (0, 1, 1, 0), (0, 1, 0, 0x400000), (0, 0, 1, 0x800000), (0, 0, 0, 0xC00000),
            (1, 1, 1, -0x400000), (1, 1, 0, -0x800000), (1, 0, 1, -0xC00000), (1, 0, 0, -0x1000000),
        ):
            halves = [bits(BL_FIRST, S=sign, i=0), bits(BL_SECOND, J=j, K=k, i=0)]
            self.step(halves, None, "", {PC: START + 4 + offset & 0xFFFFFFFF, LR: START + 5})

    def test_at_the_end_of_memory(self):
        self.step(bl(-0xFF00), None, "", {PC: 0x100, LR: 0x10001}, at=0xFFFC)
        self.undone(bl(-0xFF00)[:1], 1, at=0xFFFE)

    def test_there_and_back(self):
        outcome = self.run_halves(bl(0x20), 2, memory={START + 0x24: 0x70, START + 0x25: 0x47})
        self.assertEqual((outcome.steps, outcome.end, outcome.regs[15]), (2, 0, START + 4))


class Nothing(ChipCase):
    def test_hints(self):
        for o in range(16):
            self.step(bits(HINT, o=o), None, "NV")
            for low in range(1, 16):
                self.undone(bits(HINT, o=o) | low, 1)

    def test_barriers(self):
        for second in range(0x8F40, 0x8F70):
            self.step([0xF3BF, second], None, "ZC")
        self.step([0xF3BF, 0x8F5F], None, "ZC", at=0xFFFC)

    def test_no_barriers(self):
        for second in (0x8F30, 0x8F3F, 0x8F70, 0x8F7F, 0x8E4F, 0x9F4F, 0x0F4F, 0x8F00, 0xC000):
            self.undone([0xF3BF, second], 1)
        for first in (0xF3BE, 0xF3AF, 0xF7BF, 0xF380):
            self.undone([first, 0x8F4F], 1)
        self.undone([0xF3BF], 1, at=0xFFFE)

    def test_bl_with_a_barriers_first_half(self):
        self.step([0xF3BF, 0xF800], None, "", {PC: START + 4 + (0x3BF << 12), LR: START + 5})


if __name__ == "__main__":
    unittest.main()
