"""Rows PUSH, POP, STM, LDM."""

import unittest

from chip import ChipCase, bits, words

PUSH = "1011010 L llllllll"
POP = "1011110 L llllllll"
MANY = "1100 L nnn llllllll"
SP, LR, PC = 13, 14, 15
EIGHT = [0xA0000000 + k for k in range(8)]


class Push(ChipCase):
    def test_one(self):
        self.step(bits(PUSH, L=0, l=0b00000100), {2: 0x81828384}, "NZCV", {SP: 0x7FFC},
                  changes=words(0x7FFC, 0x81828384))
        self.step(bits(PUSH, L=1, l=0), {LR: 0xFFFFFFFF}, "", {SP: 0x7FFC}, changes=words(0x7FFC, 0xFFFFFFFF))

    def test_lowest_first(self):
        regs = {1: 0x01020304, 6: 0x05060708, LR: 0x090A0B0D}
        self.step(bits(PUSH, L=1, l=0b01000010), regs, "", {SP: 0x7FF4},
                  changes=words(0x7FF4, 0x01020304, 0x05060708, 0x090A0B0D))
        self.step(bits(PUSH, L=0, l=0b01000010), regs, "", {SP: 0x7FF8},
                  changes=words(0x7FF8, 0x01020304, 0x05060708))

    def test_all(self):
        regs = {**dict(enumerate(EIGHT)), LR: 0xB0C0D0E1}
        changes = words(0x8000 - 36, *EIGHT, 0xB0C0D0E1)
        changes = {place: byte for place, byte in changes.items() if byte != 0}
        self.step(bits(PUSH, L=1, l=255), regs, "", {SP: 0x8000 - 36}, changes=changes)

    def test_at_the_ends_of_memory(self):
        regs = {0: 0x01010101, 1: 0x02020202}
        changes = words(0xFFF8, 0x01010101, 0x02020202)
        self.step(bits(PUSH, L=0, l=3), {**regs, SP: 0x10000}, "", {SP: 0xFFF8}, changes=changes)
        changes = words(0, 0x01010101, 0x02020202)
        self.step(bits(PUSH, L=0, l=3), {**regs, SP: 8}, "", {SP: 0}, changes=changes)

    def test_places_that_are_none(self):
        for place in (0, 4, 0x10004, 0x1000C, 0xFFFFFFFC):
            self.undone(bits(PUSH, L=0, l=3), 2, {SP: place})
        self.undone(bits(PUSH, L=1, l=0), 2, {SP: 0})
        self.undone(bits(PUSH, L=1, l=255), 2, {SP: 32})
        self.undone(bits(PUSH, L=1, l=255), 2, {SP: 0x10004})

    def test_with_nothing(self):
        self.undone(bits(PUSH, L=0, l=0), 1)
        self.undone(bits(PUSH, L=0, l=0), 1, {SP: 0})


class Pop(ChipCase):
    def test_one(self):
        self.step(bits(POP, L=0, l=0b00100000), None, "NZCV", {5: 0x80000000, SP: 0x8004},
                  memory=words(0x8000, 0x80000000))
        self.step(bits(POP, L=1, l=0), None, "", {SP: 0x8004, PC: 0x2000}, memory=words(0x8000, 0x2001))

    def test_lowest_first(self):
        memory = words(0x8000, 0x11, 0x22, 0x33)
        self.step(bits(POP, L=0, l=0b10010001), None, "", {0: 0x11, 4: 0x22, 7: 0x33, SP: 0x800C}, memory=memory)
        self.step(bits(POP, L=1, l=0b10000001), None, "", {0: 0x11, 7: 0x22, PC: 0x32, SP: 0x800C}, memory=memory)

    def test_all(self):
        after = {**dict(enumerate(EIGHT)), SP: 0x8000 + 36, PC: 0xFFFFFFFE}
        self.step(bits(POP, L=1, l=255), None, "", after, memory=words(0x8000, *EIGHT, 0xFFFFFFFF))
        after = {**dict(enumerate(EIGHT)), SP: 0x8000 + 32}
        self.step(bits(POP, L=0, l=255), None, "", after, memory=words(0x8000, *EIGHT))

    def test_pc_without_its_lowest_bit(self):
        self.undone(bits(POP, L=1, l=0), 2, memory=words(0x8000, 0x2000))
        self.undone(bits(POP, L=1, l=0), 2)
        self.undone(bits(POP, L=1, l=3), 2, memory=words(0x8000, 1, 3, 0x2002))

    def test_at_the_ends_of_memory(self):
        self.step(bits(POP, L=0, l=6), {SP: 0xFFF8}, "", {1: 7, 2: 8, SP: 0x10000}, memory=words(0xFFF8, 7, 8))
        self.step(bits(POP, L=0, l=6), {SP: 0}, "", {1: 7, 2: 8, SP: 8}, memory=words(0, 7, 8))
        self.step(bits(POP, L=1, l=0), {SP: 0xFFFC}, "", {PC: 6, SP: 0x10000}, memory=words(0xFFFC, 7))

    def test_places_that_are_none(self):
        for place in (0xFFFC, 0x10000, 0xFFFFFFFC, 0xFFFFFFF8):
            self.undone(bits(POP, L=0, l=6), 2, {SP: place}, memory=words(0, 7, 9))
            self.undone(bits(POP, L=1, l=2), 2, {SP: place}, memory=words(0, 7, 9))
        self.undone(bits(POP, L=1, l=0), 2, {SP: 0x10000}, memory=words(0, 7))
        self.undone(bits(POP, L=0, l=255), 2, {SP: 0x10000 - 28}, memory=words(0, 7))
        self.undone(bits(POP, L=1, l=255), 2, {SP: 0x10000 - 32}, memory=words(0, 7))

    def test_with_nothing(self):
        self.undone(bits(POP, L=0, l=0), 1)


class Stm(ChipCase):
    def test_one(self):
        self.step(bits(MANY, L=0, n=3, l=0b00000010), {3: 0x3000, 1: 0x01020304}, "NZCV", {3: 0x3004},
                  changes=words(0x3000, 0x01020304))

    def test_several(self):
        regs = {3: 0x3000, 0: 0x11111111, 5: 0x22222222, 7: 0x33333333}
        self.step(bits(MANY, L=0, n=3, l=0b10100001), regs, "", {3: 0x300C},
                  changes=words(0x3000, 0x11111111, 0x22222222, 0x33333333))

    def test_base_as_the_lowest(self):
        self.step(bits(MANY, L=0, n=3, l=0b00001000), {3: 0x3040}, "", {3: 0x3044}, changes={0x3040: 0x40, 0x3041: 0x30})
        self.step(bits(MANY, L=0, n=3, l=0b01001000), {3: 0x3040, 6: 0xFF}, "", {3: 0x3048},
                  changes={0x3040: 0x40, 0x3041: 0x30, 0x3044: 0xFF})

    def test_all(self):
        regs = {**dict(enumerate(EIGHT)), 0: 0x3040}
        changes = words(0x3040, 0x3040, *EIGHT[1:])
        changes = {place: byte for place, byte in changes.items() if byte != 0}
        self.step(bits(MANY, L=0, n=0, l=255), regs, "", {0: 0x3060}, changes=changes)

    def test_base_in_the_list_but_not_as_the_lowest(self):
        for n in range(1, 8):
            self.undone(bits(MANY, L=0, n=n, l=255), 1, {n: 0x3000})
            self.undone(bits(MANY, L=0, n=n, l=1 << n | 1 << n - 1), 1, {n: 0x3000})
        self.undone(bits(MANY, L=0, n=7, l=0b10000001), 1, {7: 0x3001})

    def test_at_the_ends_of_memory(self):
        regs = {0: 0x01010101, 1: 0x02020202}
        changes = words(0xFFF8, 0x01010101, 0x02020202)
        self.step(bits(MANY, L=0, n=4, l=3), {**regs, 4: 0xFFF8}, "", {4: 0x10000}, changes=changes)
        changes = words(0, 0x01010101, 0x02020202)
        self.step(bits(MANY, L=0, n=4, l=3), {**regs, 4: 0}, "", {4: 8}, changes=changes)

    def test_places_that_are_none(self):
        for place in (0xFFFC, 0x10000, 0xFFFFFFFC, 0x3001, 0x3002, 0x3003, 0xFFFA):
            self.undone(bits(MANY, L=0, n=4, l=3), 2, {4: place})
        self.undone(bits(MANY, L=0, n=0, l=255), 2, {0: 0x10000 - 28})

    def test_with_nothing(self):
        for n in range(8):
            self.undone(bits(MANY, L=0, n=n, l=0), 1, {n: 0x3000})


class Ldm(ChipCase):
    def test_one(self):
        self.step(bits(MANY, L=1, n=3, l=0b00000010), {3: 0x3000}, "NZCV", {1: 0x81020304, 3: 0x3004},
                  memory=words(0x3000, 0x81020304))

    def test_several(self):
        self.step(bits(MANY, L=1, n=3, l=0b10100001), {3: 0x3000}, "", {0: 11, 5: 22, 7: 33, 3: 0x300C},
                  memory=words(0x3000, 11, 22, 33))

    def test_base_in_the_list(self):
        memory = words(0x3000, 11, 22, 33)
        self.step(bits(MANY, L=1, n=3, l=0b00001000), {3: 0x3000}, "", {3: 11}, memory=memory)
        self.step(bits(MANY, L=1, n=3, l=0b00011010), {3: 0x3000}, "", {1: 11, 3: 22, 4: 33}, memory=memory)
        self.step(bits(MANY, L=1, n=3, l=0b00001110), {3: 0x3000}, "", {1: 11, 2: 22, 3: 33}, memory=memory)
        self.step(bits(MANY, L=1, n=0, l=255), {0: 0x3000}, "", dict(enumerate(EIGHT)), memory=words(0x3000, *EIGHT))

    def test_at_the_ends_of_memory(self):
        self.step(bits(MANY, L=1, n=4, l=3), {4: 0xFFF8}, "", {0: 7, 1: 8, 4: 0x10000}, memory=words(0xFFF8, 7, 8))
        self.step(bits(MANY, L=1, n=4, l=3), {4: 0}, "", {0: 7, 1: 8, 4: 8}, memory=words(0, 7, 8))

    def test_places_that_are_none(self):
        for place in (0xFFFC, 0x10000, 0xFFFFFFFC, 0x3001, 0x3002, 0x3003, 0xFFFA):
            self.undone(bits(MANY, L=1, n=4, l=3), 2, {4: place})
            self.undone(bits(MANY, L=1, n=4, l=0b10001), 2, {4: place})
        self.undone(bits(MANY, L=1, n=0, l=255), 2, {0: 0x10000 - 28})

    def test_with_nothing(self):
        for n in range(8):
            self.undone(bits(MANY, L=1, n=n, l=0), 1, {n: 0x3000})


if __name__ == "__main__":
    unittest.main()
