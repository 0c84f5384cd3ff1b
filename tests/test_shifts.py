"""Rows LSLS, LSRS, ASRS by a number, and LSLS, LSRS, ASRS, RORS by a register."""

import unittest

from chip import ChipCase, bits

BY_NUMBER = "000 oo iiiii mmm ddd"
BY_REGISTER = "010000 oooo mmm ddd"
LSLS, LSRS, ASRS, RORS = 2, 3, 4, 7


class ByNumber(ChipCase):
    def shift(self, o, i, value, result, before, behind):
        half = bits(BY_NUMBER, o=o, i=i, m=6, d=1)
        self.step(half, {6: value}, before, {1: result}, behind)

    def test_lsls(self):
        self.shift(0, 1, 0x40000001, 0x80000002, "CV", "NV")
        self.shift(0, 1, 0x80000000, 0, "", "ZC")
        self.shift(0, 4, 0x12345678, 0x23456780, "NZ", "C")
        self.shift(0, 31, 3, 0x80000000, "", "NC")
        self.shift(0, 31, 1, 0x80000000, "C", "N")

    def test_lsls_by_0_is_movs(self):
        self.shift(0, 0, 0x80000001, 0x80000001, "ZCV", "NCV")
        self.shift(0, 0, 0x80000001, 0x80000001, "Z", "N")
        self.shift(0, 0, 0, 0, "NC", "ZC")
        self.shift(0, 0, 5, 5, "NZV", "V")

    def test_lsrs(self):
        self.shift(1, 1, 3, 1, "NZV", "CV")
        self.shift(1, 4, 0xF2345678, 0x0F234567, "", "C")
        self.shift(1, 31, 0x80000000, 1, "C", "")
        self.shift(1, 31, 0xC0000000, 1, "", "C")

    def test_lsrs_0_is_by_32(self):
        self.shift(1, 0, 0x80000000, 0, "N", "ZC")
        self.shift(1, 0, 0x7FFFFFFF, 0, "NC", "Z")

    def test_asrs(self):
        self.shift(2, 1, 0x80000001, 0xC0000000, "", "NC")
        self.shift(2, 1, 0x40000000, 0x20000000, "CV", "V")
        self.shift(2, 31, 0x80000000, 0xFFFFFFFF, "C", "N")
        self.shift(2, 31, 0xC0000000, 0xFFFFFFFF, "", "NC")
        self.shift(2, 31, 0x40000000, 0, "", "ZC")

    def test_asrs_0_is_by_32(self):
        self.shift(2, 0, 0x80000000, 0xFFFFFFFF, "Z", "NC")
        self.shift(2, 0, 0x7FFFFFFF, 0, "NC", "Z")

    def test_to_the_same_register(self):
        self.step(bits(BY_NUMBER, o=0, i=8, m=3, d=3), {3: 0x11}, "", {3: 0x1100}, "")


class ByRegister(ChipCase):
    def shift(self, o, by, value, result, before, behind):
        half = bits(BY_REGISTER, o=o, m=2, d=5)
        self.step(half, {5: value, 2: by}, before, {5: result}, behind)

    def test_by_0_leaves_c(self):
        for o in (LSLS, LSRS, ASRS, RORS):
            for by in (0, 0x100, 0xFFFFFF00):
                self.shift(o, by, 0x80000001, 0x80000001, "ZCV", "NCV")
                self.shift(o, by, 0x80000001, 0x80000001, "V", "NV")
                self.shift(o, by, 0, 0, "NC", "ZC")

    def test_lsls(self):
        self.shift(LSLS, 1, 0xC0000000, 0x80000000, "", "NC")
        self.shift(LSLS, 31, 2, 0, "", "ZC")
        self.shift(LSLS, 31, 1, 0x80000000, "CV", "NV")
        self.shift(LSLS, 32, 1, 0, "", "ZC")
        self.shift(LSLS, 32, 0xFFFFFFFE, 0, "C", "Z")
        self.shift(LSLS, 33, 0xFFFFFFFF, 0, "C", "Z")
        self.shift(LSLS, 255, 0xFFFFFFFF, 0, "C", "Z")
        self.shift(LSLS, 0xABCDEF04, 0x1234, 0x12340, "", "")

    def test_lsrs(self):
        self.shift(LSRS, 1, 0x80000001, 0x40000000, "", "C")
        self.shift(LSRS, 31, 0x80000000, 1, "C", "")
        self.shift(LSRS, 32, 0x80000000, 0, "", "ZC")
        self.shift(LSRS, 32, 0x7FFFFFFF, 0, "C", "Z")
        self.shift(LSRS, 33, 0xFFFFFFFF, 0, "C", "Z")
        self.shift(LSRS, 255, 0xFFFFFFFF, 0, "CV", "ZV")

    def test_asrs(self):
        self.shift(ASRS, 1, 0x80000001, 0xC0000000, "", "NC")
        self.shift(ASRS, 31, 0x80000000, 0xFFFFFFFF, "C", "N")
        for by in (32, 33, 64, 255):
            self.shift(ASRS, by, 0x80000000, 0xFFFFFFFF, "", "NC")
            self.shift(ASRS, by, 0x7FFFFFFF, 0, "CV", "ZV")

    def test_rors(self):
        self.shift(RORS, 1, 1, 0x80000000, "", "NC")
        self.shift(RORS, 4, 0x12345678, 0x81234567, "", "NC")
        self.shift(RORS, 31, 0x40000001, 0x80000002, "", "NC")
        self.shift(RORS, 31, 1, 2, "C", "")
        self.shift(RORS, 32, 0x80000001, 0x80000001, "", "NC")
        self.shift(RORS, 32, 1, 1, "C", "")
        self.shift(RORS, 33, 2, 1, "C", "")
        self.shift(RORS, 255, 0x40000000, 0x80000000, "V", "NCV")
        self.shift(RORS, 64, 0, 0, "C", "Z")

    def test_by_itself(self):
        self.step(bits(BY_REGISTER, o=LSLS, m=4, d=4), {4: 3}, "C", {4: 24}, "")


if __name__ == "__main__":
    unittest.main()
