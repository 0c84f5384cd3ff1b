"""Promise 3: the text of each row of the table, with each of its names and its edges."""

import unittest

from chip import ChipCase, bits

OF_TWO = "010000 oooo mmm ddd"
HIGH = "010001 oo D mmmm ddd"
BY_REGISTER = "0101 ooo mmm nnn ttt"
SP, LR, PC = 13, 14, 15


class Shifts(ChipCase):
    row = "000 oo iiiii mmm ddd"

    def test_by_a_number(self):
        self.text(bits(self.row, o=0, i=1, m=2, d=7), "lsls r7, r2, #1")
        self.text(bits(self.row, o=0, i=31, m=7, d=0), "lsls r0, r7, #31")
        self.text(bits(self.row, o=1, i=1, m=0, d=3), "lsrs r3, r0, #1")
        self.text(bits(self.row, o=1, i=31, m=3, d=3), "lsrs r3, r3, #31")
        self.text(bits(self.row, o=2, i=16, m=5, d=6), "asrs r6, r5, #16")

    def test_lsls_by_0_is_movs(self):
        self.text(bits(self.row, o=0, i=0, m=2, d=7), "movs r7, r2")
        self.text(0, "movs r0, r0")

    def test_by_32(self):
        self.text(bits(self.row, o=1, i=0, m=4, d=1), "lsrs r1, r4, #32")
        self.text(bits(self.row, o=2, i=0, m=1, d=4), "asrs r4, r1, #32")


class Sums(ChipCase):
    def test_of_three(self):
        self.text(bits("000110 S mmm nnn ddd", S=0, m=7, n=4, d=0), "adds r0, r4, r7")
        self.text(bits("000110 S mmm nnn ddd", S=1, m=1, n=2, d=3), "subs r3, r2, r1")
        self.text(bits("000110 S mmm nnn ddd", S=0, m=5, n=5, d=5), "adds r5, r5, r5")

    def test_of_three_with_a_number(self):
        self.text(bits("000111 S iii nnn ddd", S=0, i=7, n=4, d=0), "adds r0, r4, #7")
        self.text(bits("000111 S iii nnn ddd", S=1, i=1, n=2, d=3), "subs r3, r2, #1")
        self.text(bits("000111 S iii nnn ddd", S=0, i=0, n=2, d=3), "adds r3, r2, #0")
        self.text(bits("000111 S iii nnn ddd", S=1, i=0, n=2, d=3), "subs r3, r2, #0")

    def test_a_register_twice_is_written_twice(self):
        self.text(bits("000111 S iii nnn ddd", S=0, i=5, n=3, d=3), "adds r3, r3, #5")
        self.text(bits("001 oo ddd iiiiiiii", o=2, d=3, i=5), "adds r3, #5")
        self.text(bits("000111 S iii nnn ddd", S=1, i=5, n=3, d=3), "subs r3, r3, #5")
        self.text(bits("001 oo ddd iiiiiiii", o=3, d=3, i=5), "subs r3, #5")

    def test_with_a_byte(self):
        for o, name in enumerate(("movs", "cmp", "adds", "subs")):
            for i in (0, 1, 99, 100, 128, 255):
                self.text(bits("001 oo ddd iiiiiiii", o=o, d=6, i=i), f"{name} r6, #{i}")


class OfTwo(ChipCase):
    def test_each_name(self):
        names = ("ands", "eors", "lsls", "lsrs", "asrs", "adcs", "sbcs", "rors",
                 "tst", None, "cmp", "cmn", "orrs", "muls", "bics", "mvns")
        for o, name in enumerate(names):
            if name:
                self.text(bits(OF_TWO, o=o, m=6, d=1), f"{name} r1, r6")
                self.text(bits(OF_TWO, o=o, m=2, d=2), f"{name} r2, r2")

    def test_rsbs(self):
        self.text(bits(OF_TWO, o=9, m=6, d=1), "rsbs r1, r6, #0")
        self.text(bits(OF_TWO, o=9, m=0, d=0), "rsbs r0, r0, #0")

    def test_extensions(self):
        for o, name in enumerate(("sxth", "sxtb", "uxth", "uxtb")):
            self.text(bits("10110010 oo mmm ddd", o=o, m=5, d=2), f"{name} r2, r5")

    def test_turned_bytes(self):
        for o, name in ((0, "rev"), (1, "rev16"), (3, "revsh")):
            self.text(bits("10111010 oo mmm ddd", o=o, m=5, d=2), f"{name} r2, r5")


class HighRegisters(ChipCase):
    names = ("r0", "r1", "r2", "r3", "r4", "r5", "r6", "r7", "r8", "r9", "r10", "r11", "r12", "sp", "lr", "pc")

    def high(self, o, d, m):
        return bits(HIGH, o=o, D=d >> 3, m=m, d=d & 7)

    def test_mov(self):
        for d, left in enumerate(self.names):
            for m, right in enumerate(self.names):
                self.text(self.high(2, d, m), f"mov {left}, {right}")

    def test_add(self):
        self.text(self.high(0, 0, 1), "add r0, r1")
        self.text(self.high(0, 8, 7), "add r8, r7")
        self.text(self.high(0, 3, SP), "add r3, sp")
        self.text(self.high(0, SP, 3), "add sp, r3")
        self.text(self.high(0, SP, SP), "add sp, sp")
        self.text(self.high(0, LR, PC), "add lr, pc")
        self.text(self.high(0, PC, LR), "add pc, lr")

    def test_cmp(self):
        self.text(self.high(1, 0, 8), "cmp r0, r8")
        self.text(self.high(1, 12, 7), "cmp r12, r7")
        self.text(self.high(1, SP, LR), "cmp sp, lr")

    def test_bx_and_blx(self):
        for m, name in enumerate(self.names[:15]):
            self.text(bits("010001 11 L mmmm 000", L=0, m=m), f"bx {name}")
            self.text(bits("010001 11 L mmmm 000", L=1, m=m), f"blx {name}")


class Places(ChipCase):
    def test_by_pc(self):
        self.text(bits("01001 ttt iiiiiiii", t=3, i=2), "ldr r3, [pc, #8]")
        self.text(bits("01001 ttt iiiiiiii", t=0, i=0), "ldr r0, [pc, #0]")
        self.text(bits("01001 ttt iiiiiiii", t=7, i=255), "ldr r7, [pc, #1020]")
        self.text(bits("01001 ttt iiiiiiii", t=7, i=1), "ldr r7, [pc, #4]", at=0x102)

    def test_by_a_register(self):
        names = ("str", "strh", "strb", "ldrsb", "ldr", "ldrh", "ldrb", "ldrsh")
        for o, name in enumerate(names):
            self.text(bits(BY_REGISTER, o=o, m=1, n=6, t=3), f"{name} r3, [r6, r1]")
            self.text(bits(BY_REGISTER, o=o, m=0, n=0, t=0), f"{name} r0, [r0, r0]")

    def test_by_a_number(self):
        for highest, ending, times in (("0110", "", 4), ("0111", "b", 1), ("1000", "h", 2)):
            for i in (0, 1, 5, 31):
                for bit, name in ((0, "str"), (1, "ldr")):
                    half = bits(highest + " L iiiii nnn ttt", L=bit, i=i, n=2, t=5)
                    self.text(half, f"{name}{ending} r5, [r2, #{times * i}]")

    def test_known_numbers(self):
        self.text(0x6008, "str r0, [r1, #0]")
        self.text(0x6FC8, "ldr r0, [r1, #124]")
        self.text(0x7FC8, "ldrb r0, [r1, #31]")
        self.text(0x8FC8, "ldrh r0, [r1, #62]")

    def test_on_the_stack(self):
        self.text(bits("1001 L ttt iiiiiiii", L=0, t=4, i=0), "str r4, [sp, #0]")
        self.text(bits("1001 L ttt iiiiiiii", L=0, t=4, i=255), "str r4, [sp, #1020]")
        self.text(bits("1001 L ttt iiiiiiii", L=1, t=4, i=2), "ldr r4, [sp, #8]")

    def test_sums_of_pc_and_sp(self):
        self.text(bits("1010 S ddd iiiiiiii", S=0, d=1, i=2), "add r1, pc, #8")
        self.text(bits("1010 S ddd iiiiiiii", S=0, d=1, i=0), "add r1, pc, #0")
        self.text(bits("1010 S ddd iiiiiiii", S=0, d=1, i=255), "add r1, pc, #1020", at=0x102)
        self.text(bits("1010 S ddd iiiiiiii", S=1, d=1, i=2), "add r1, sp, #8")
        self.text(bits("1010 S ddd iiiiiiii", S=1, d=7, i=0), "add r7, sp, #0")
        self.text(bits("1010 S ddd iiiiiiii", S=1, d=0, i=255), "add r0, sp, #1020")

    def test_sums_to_sp(self):
        for i in (0, 2, 127):
            self.text(bits("10110000 S iiiiiii", S=0, i=i), f"add sp, #{4 * i}")
            self.text(bits("10110000 S iiiiiii", S=1, i=i), f"sub sp, #{4 * i}")


class Lists(ChipCase):
    def test_push(self):
        self.text(bits("1011010 L llllllll", L=0, l=1), "push {r0}")
        self.text(bits("1011010 L llllllll", L=0, l=0b10110), "push {r1, r2, r4}")
        self.text(bits("1011010 L llllllll", L=1, l=0b11), "push {r0, r1, lr}")
        self.text(bits("1011010 L llllllll", L=1, l=0), "push {lr}")
        self.text(bits("1011010 L llllllll", L=1, l=255), "push {r0, r1, r2, r3, r4, r5, r6, r7, lr}")

    def test_pop(self):
        self.text(bits("1011110 L llllllll", L=0, l=0x80), "pop {r7}")
        self.text(bits("1011110 L llllllll", L=0, l=0b10110), "pop {r1, r2, r4}")
        self.text(bits("1011110 L llllllll", L=1, l=0b11), "pop {r0, r1, pc}")
        self.text(bits("1011110 L llllllll", L=1, l=0), "pop {pc}")
        self.text(bits("1011110 L llllllll", L=1, l=255), "pop {r0, r1, r2, r3, r4, r5, r6, r7, pc}")

    def test_stm(self):
        self.text(bits("1100 L nnn llllllll", L=0, n=0, l=2), "stm r0!, {r1}")
        self.text(bits("1100 L nnn llllllll", L=0, n=3, l=0b10110), "stm r3!, {r1, r2, r4}")
        self.text(bits("1100 L nnn llllllll", L=0, n=3, l=0b11000), "stm r3!, {r3, r4}")
        self.text(bits("1100 L nnn llllllll", L=0, n=3, l=0b1000), "stm r3!, {r3}")

    def test_ldm(self):
        self.text(bits("1100 L nnn llllllll", L=1, n=0, l=2), "ldm r0!, {r1}")
        self.text(bits("1100 L nnn llllllll", L=1, n=3, l=0b10110), "ldm r3!, {r1, r2, r4}")

    def test_ldm_that_loads_its_own(self):
        self.text(bits("1100 L nnn llllllll", L=1, n=3, l=0b1000), "ldm r3, {r3}")
        self.text(bits("1100 L nnn llllllll", L=1, n=3, l=0b11000), "ldm r3, {r3, r4}")
        self.text(bits("1100 L nnn llllllll", L=1, n=3, l=0b11100), "ldm r3, {r2, r3, r4}")
        self.text(bits("1100 L nnn llllllll", L=1, n=7, l=255), "ldm r7, {r0, r1, r2, r3, r4, r5, r6, r7}")


class Others(ChipCase):
    def test_bkpt_and_svc(self):
        for i in (0, 1, 7, 10, 255):
            self.text(bits("10111110 iiiiiiii", i=i), f"bkpt #{i}")
            self.text(bits("11011111 iiiiiiii", i=i), f"svc #{i}")

    def test_hints(self):
        for o in range(16):
            self.text(bits("10111111 oooo 0000", o=o), "nop")

    def test_barriers(self):
        for second in range(0x8F40, 0x8F70):
            self.text([0xF3BF, second], "barrier")
        self.text([0xF3BF, 0x8F5F], "barrier", at=0xFFFC)


if __name__ == "__main__":
    unittest.main()
