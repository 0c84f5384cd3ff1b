"""Each row of the table reads its registers and its numbers from just the bits that are theirs."""

import unittest

from chip import START, ChipCase, bits, lowest_bytes, registers, words

LOW = range(8)
SP, PC = 13, 15
# So small that sums of two are places in memory, all of them multiples of 4, and none of them like another.
SMALL = {k: 0x1000 + 0x104 * (1 << k) for k in LOW}


class EveryRegister(ChipCase):
    def test_of_three(self):
        for d in LOW:
            for n in LOW:
                for m in LOW:
                    half = bits("000110 0 mmm nnn ddd", m=m, n=n, d=d)
                    self.step(half, SMALL, "NZCV", {d: SMALL[n] + SMALL[m]}, "")
                for i in LOW:
                    self.step(bits("000111 0 iii nnn ddd", i=i, n=n, d=d), SMALL, "NZCV", {d: SMALL[n] + i}, "")

    def test_of_two(self):
        for d in LOW:
            for m in LOW:
                self.step(bits("000 00 00001 mmm ddd", m=m, d=d), SMALL, "NZC", {d: 2 * SMALL[m]}, "")
                self.step(bits("010000 1100 mmm ddd", m=m, d=d), SMALL, "NZ", {d: SMALL[d] | SMALL[m]}, "")
                self.step(bits("010000 1111 mmm ddd", m=m, d=d), SMALL, "Z", {d: 0xFFFFFFFF - SMALL[m]}, "N")
                self.step(bits("10110010 10 mmm ddd", m=m, d=d), SMALL, "Z", {d: SMALL[m] & 0xFFFF})
                self.step(bits("10111010 00 mmm ddd", m=m, d=d), SMALL, "Z",
                          {d: int.from_bytes(SMALL[m].to_bytes(4, "big"), "little")})

    def test_high(self):
        ordinary = registers(None)
        ordinary[PC] += 4
        for d in [k for k in range(16) if k not in (SP, PC)]:
            for m in range(16):
                self.step(bits("010001 10 D mmmm ddd", D=d >> 3, m=m, d=d & 7), None, "Z", {d: ordinary[m]})
                self.step(bits("010001 00 D mmmm ddd", D=d >> 3, m=m, d=d & 7), None, "Z",
                          {d: ordinary[d] + ordinary[m] & 0xFFFFFFFF})

    def test_with_byte(self):
        for d in LOW:
            for i in range(256):
                self.step(bits("001 10 ddd iiiiiiii", d=d, i=i), SMALL, "NZCV", {d: SMALL[d] + i}, "")
            self.step(bits("001 00 ddd iiiiiiii", d=d, i=1), SMALL, "NZCV", {d: 1}, "CV")
            self.step(bits("001 01 ddd iiiiiiii", d=d, i=1), SMALL, "NZ", None, "C")
            self.step(bits("001 11 ddd iiiiiiii", d=d, i=1), SMALL, "NZ", {d: SMALL[d] - 1}, "C")

    def test_by_pc_and_sp(self):
        for d in LOW:
            for i in (0, 1, 2, 4, 8, 16, 32, 64, 128, 255):
                from_pc = START + 4 + 4 * i
                from_sp = 0x8000 + 4 * i
                self.step(bits("01001 ttt iiiiiiii", t=d, i=i), None, "N", {d: 9}, memory=words(from_pc, 9))
                self.step(bits("1001 1 ttt iiiiiiii", t=d, i=i), None, "N", {d: 9}, memory=words(from_sp, 9))
                self.step(bits("1001 0 ttt iiiiiiii", t=d, i=i), {d: 9}, "N", changes={from_sp: 9})
                self.step(bits("1010 0 ddd iiiiiiii", d=d, i=i), None, "N", {d: from_pc})
                self.step(bits("1010 1 ddd iiiiiiii", d=d, i=i), None, "N", {d: from_sp})

    def test_sp_by_each_number(self):
        for i in range(128):
            self.step(bits("10110000 0 iiiiiii", i=i), None, "", {SP: 0x8000 + 4 * i})
            self.step(bits("10110000 1 iiiiiii", i=i), None, "", {SP: 0x8000 - 4 * i})

    def test_moves_by_register(self):
        regs = {k: 4 * (1 << k) + 0x3000 for k in LOW}
        for t in LOW:
            for n in LOW:
                for m in LOW:
                    place = regs[n] + regs[m]
                    half = bits("0101 100 mmm nnn ttt", m=m, n=n, t=t)
                    self.step(half, regs, "N", {t: 0x81828384}, memory=words(place, 0x81828384))
                    half = bits("0101 010 mmm nnn ttt", m=m, n=n, t=t)
                    self.step(half, regs, "N", None, memory={place: 1}, changes={place: regs[t] & 255})

    def test_moves_by_number(self):
        regs = {k: 0x3000 + 0x200 * k for k in LOW}
        for highest, size in (("0110", 4), ("0111", 1), ("1000", 2)):
            for i in range(32):
                for k in LOW:
                    n, t = k, (k + i) % 8
                    place = regs[n] + size * i
                    half = bits(f"{highest} 1 iiiii nnn ttt", i=i, n=n, t=t)
                    self.step(half, regs, "N", {t: 0x61}, memory={place: 0x61})
                    half = bits(f"{highest} 0 iiiii nnn ttt", i=i, n=n, t=t)
                    full = {place + at: 0xEE for at in range(size)}
                    self.step(half, regs, "N", None, memory=full, changes=lowest_bytes(place, regs[t], size))

    def test_lists(self):
        for k in LOW:
            self.step(bits("1011010 0 llllllll", l=1 << k), {k: 0x61}, "", {SP: 0x7FFC}, changes={0x7FFC: 0x61})
            self.step(bits("1011110 0 llllllll", l=1 << k), None, "", {k: 9, SP: 0x8004}, memory=words(0x8000, 9))
            for n in [n for n in LOW if n != k]:
                half = bits("1100 0 nnn llllllll", n=n, l=1 << k)
                self.step(half, {n: 0x3000, k: 0x61}, "", {n: 0x3004}, changes={0x3000: 0x61})
                half = bits("1100 1 nnn llllllll", n=n, l=1 << k)
                self.step(half, {n: 0x3000}, "", {k: 9, n: 0x3004}, memory=words(0x3000, 9))


if __name__ == "__main__":
    unittest.main()
