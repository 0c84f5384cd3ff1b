"""Promise 3: where branches go, as show tells it."""

import unittest

from chip import START, ChipCase, bits

IF = "1101 cccc iiiiiiii"
B = "11100 iiiiiiiiiii"
NAMES = ("beq", "bne", "bcs", "bcc", "bmi", "bpl", "bvs", "bvc", "bhi", "bls", "bge", "blt", "bgt", "ble")


class Conditional(ChipCase):
    def test_each_name(self):
        for c, name in enumerate(NAMES):
            self.text(bits(IF, c=c, i=5), f"{name} 0x10e")

    def test_forwards_and_backwards(self):
        self.text(bits(IF, c=0, i=0), "beq 0x104")
        self.text(bits(IF, c=0, i=127), "beq 0x202")
        self.text(bits(IF, c=0, i=-1 & 255), "beq 0x102")
        self.text(bits(IF, c=0, i=-2 & 255), "beq 0x100")
        self.text(bits(IF, c=0, i=-128 & 255), "beq 0x4")

    def test_as_few_digits_as_it_takes(self):
        self.text(bits(IF, c=1, i=-2 & 255), "bne 0x0", at=0)
        self.text(bits(IF, c=1, i=-6 & 255), "bne 0x0", at=8)
        self.text(bits(IF, c=1, i=5), "bne 0xe", at=0)
        self.text(bits(IF, c=1, i=6), "bne 0x10", at=0)
        self.text(bits(IF, c=1, i=0), "bne 0xabc", at=0xAB8)
        self.text(bits(IF, c=1, i=0), "bne 0xdef0", at=0xDEEC)

    def test_below_0(self):
        self.text(bits(IF, c=13, i=-3 & 255), "ble 0xfffffffe", at=0)
        self.text(bits(IF, c=13, i=-128 & 255), "ble 0xffffff04", at=0)
        self.text(bits(IF, c=13, i=-128 & 255), "ble 0xfffffffe", at=0xFA)

    def test_beyond_memory(self):
        self.text(bits(IF, c=0, i=0), "beq 0x10002", at=0xFFFE)
        self.text(bits(IF, c=0, i=127), "beq 0x10100", at=0xFFFE)
        self.text(bits(IF, c=0, i=-1 & 255), "beq 0x10000", at=0xFFFE)


class Always(ChipCase):
    def test_how_far(self):
        self.text(bits(B, i=0), "b 0x1004", at=0x1000)
        self.text(bits(B, i=1023), "b 0x1802", at=0x1000)
        self.text(bits(B, i=-1024 & 2047), "b 0x804", at=0x1000)
        self.text(bits(B, i=-2 & 2047), "b 0x1000", at=0x1000)

    def test_at_the_ends(self):
        self.text(bits(B, i=-2 & 2047), "b 0x0", at=0)
        self.text(bits(B, i=-1024 & 2047), "b 0xfffff804", at=0)
        self.text(bits(B, i=-4 & 2047), "b 0xfffffffc", at=0)
        self.text(bits(B, i=1023), "b 0x10800", at=0xFFFE)


class Linked(ChipCase):
    def test_both_ways(self):
        self.text([0xF000, 0xF800], "bl 0x104")
        self.text([0xF000, 0xF801], "bl 0x106")
        self.text([0xF7FF, 0xFFFE], "bl 0x100")
        self.text([0xF7FF, 0xFFFF], "bl 0x102")
        self.text([0xF001, 0xF800], "bl 0x1104")

    def test_at_the_ends(self):
        self.text([0xF7FF, 0xFFFE], "bl 0x0", at=0)
        self.text([0xF7FF, 0xFFFD], "bl 0xfffffffe", at=0)
        self.text([0xF7FF, 0xFFFE], "bl 0xfffc", at=0xFFFC)
        self.text([0xF000, 0xF800], "bl 0x10000", at=0xFFFC)

    def test_j_and_k_by_the_sign(self):
        for sign, j, k, offset in (
            (0, 1, 1, 0), (0, 1, 0, 0x400000), (0, 0, 1, 0x800000), (0, 0, 0, 0xC00000),
            (1, 1, 1, -0x400000), (1, 1, 0, -0x800000), (1, 0, 1, -0xC00000), (1, 0, 0, -0x1000000),
        ):
            halves = [bits("11110 S 0000000000", S=sign), bits("11 J 1 K 00000000000", J=j, K=k)]
            self.text(halves, "bl " + hex(START + 4 + offset & 0xFFFFFFFF))

    def test_farthest(self):
        self.text([0xF3FF, 0xD7FF], "bl 0x1000102")
        self.text([0xF400, 0xD000], "bl 0xff000104")

    def test_a_barriers_first_half(self):
        self.text([0xF3BF, 0xF800], "bl 0x3bf104")


if __name__ == "__main__":
    unittest.main()
