"""Promise 3: all 16 bits there are, row by row, and what is no instruction."""

import unittest

from chip import ROWS, START, ChipCase, fields_of

NAMES = ("r0", "r1", "r2", "r3", "r4", "r5", "r6", "r7", "r8", "r9", "r10", "r11", "r12", "sp", "lr", "pc")
GAPS = (
    (0x4501, "half 0x4501"), (0x453F, "half 0x453f"), (0x4578, "half 0x4578"), (0x4587, "half 0x4587"),
    (0x44FF, "half 0x44ff"), (0x4701, "half 0x4701"), (0x4778, "half 0x4778"), (0x47F8, "half 0x47f8"),
    (0xB100, "half 0xb100"), (0xB3FF, "half 0xb3ff"), (0xB400, "half 0xb400"), (0xB662, "half 0xb662"),
    (0xB672, "half 0xb672"), (0xB700, "half 0xb700"), (0xB800, "half 0xb800"), (0xB9AB, "half 0xb9ab"),
    (0xBA80, "half 0xba80"), (0xBABF, "half 0xbabf"), (0xBB00, "half 0xbb00"), (0xBC00, "half 0xbc00"),
    (0xBF01, "half 0xbf01"), (0xBFFF, "half 0xbfff"), (0xC000, "half 0xc000"), (0xC700, "half 0xc700"),
    (0xC103, "half 0xc103"), (0xC7FF, "half 0xc7ff"), (0xC800, "half 0xc800"), (0xCF00, "half 0xcf00"),
    (0xDE00, "half 0xde00"), (0xDEFF, "half 0xdeff"), (0xE800, "half 0xe800"), (0xEFFF, "half 0xefff"),
    (0xF000, "half 0xf000"), (0xF7FF, "half 0xf7ff"), (0xF800, "half 0xf800"), (0xFFFF, "half 0xffff"),
)


def low(f):
    """The fields of a row, with registers by their names."""
    return {**f, **{letter: NAMES[f[letter]] for letter in "dnmt" if letter in f}}


def shift(f):
    if (f["o"], f["i"]) == (0, 0):
        return "movs {d}, {m}".format(**low(f))
    name = ("lsls", "lsrs", "asrs")[f["o"]]
    return name + " {d}, {m}, #".format(**low(f)) + str(f["i"] or 32)


def of_two(f):
    names = "ands eors lsls lsrs asrs adcs sbcs rors tst rsbs cmp cmn orrs muls bics mvns".split()
    return names[f["o"]] + " {d}, {m}".format(**low(f)) + (", #0" if f["o"] == 9 else "")


def high(name):
    return lambda f: f"{name} {NAMES[8 * f['D'] + f['d']]}, {NAMES[f['m']]}"


def chosen(letter, names, rest):
    return lambda f: names.split()[f[letter]] + rest.format(**low(f))


def moved(names, times):
    return lambda f: chosen("L", names, " {t}, [{n}, #")(f) + f"{times * f['i']}]"


def by_four(letter, names, before, behind=""):
    return lambda f: chosen(letter, names, before)(f) + str(4 * f["i"]) + behind


def listed(f, ninth=None):
    names = [NAMES[k] for k in range(8) if f["l"] >> k & 1]
    return "{" + ", ".join(names + ([ninth] if ninth and f["L"] else [])) + "}"


def many(f):
    loaded = f["L"] and f["l"] >> f["n"] & 1
    return ("ldm " if f["L"] else "stm ") + NAMES[f["n"]] + ("" if loaded else "!") + ", " + listed(f)


def target(f, width):
    far = f["i"] - (1 << width) if f["i"] >> width - 1 else f["i"]
    return " " + hex(START + 4 + 2 * far & 0xFFFFFFFF)


def conditional(f):
    names = "beq bne bcs bcc bmi bpl bvs bvc bhi bls bge blt bgt ble".split()
    return names[f["c"]] + target(f, 8)


# The text of each row, by its bits.
TEXTS = {
    "000 oo iiiii mmm ddd": shift,
    "000110 S mmm nnn ddd": chosen("S", "adds subs", " {d}, {n}, {m}"),
    "000111 S iii nnn ddd": chosen("S", "adds subs", " {d}, {n}, #{i}"),
    "001 oo ddd iiiiiiii": chosen("o", "movs cmp adds subs", " {d}, #{i}"),
    "010000 oooo mmm ddd": of_two,
    "010001 00 D mmmm ddd": high("add"),
    "010001 01 D mmmm ddd": high("cmp"),
    "010001 10 D mmmm ddd": high("mov"),
    "010001 11 L mmmm 000": chosen("L", "bx blx", " {m}"),
    "01001 ttt iiiiiiii": lambda f: f"ldr {NAMES[f['t']]}, [pc, #{4 * f['i']}]",
    "0101 ooo mmm nnn ttt": chosen("o", "str strh strb ldrsb ldr ldrh ldrb ldrsh", " {t}, [{n}, {m}]"),
    "0110 L iiiii nnn ttt": moved("str ldr", 4),
    "0111 L iiiii nnn ttt": moved("strb ldrb", 1),
    "1000 L iiiii nnn ttt": moved("strh ldrh", 2),
    "1001 L ttt iiiiiiii": by_four("L", "str ldr", " {t}, [sp, #", "]"),
    "1010 S ddd iiiiiiii": lambda f: f"add {NAMES[f['d']]}, {'sp' if f['S'] else 'pc'}, #{4 * f['i']}",
    "10110000 S iiiiiii": by_four("S", "add sub", " sp, #"),
    "10110010 oo mmm ddd": chosen("o", "sxth sxtb uxth uxtb", " {d}, {m}"),
    "1011010 L llllllll": lambda f: "push " + listed(f, "lr"),
    "1011110 L llllllll": lambda f: "pop " + listed(f, "pc"),
    "10111010 oo mmm ddd": chosen("o", "rev rev16 none revsh", " {d}, {m}"),
    "10111110 iiiiiiii": lambda f: f"bkpt #{f['i']}",
    "10111111 oooo 0000": lambda f: "nop",
    "1100 L nnn llllllll": many,
    "1101 cccc iiiiiiii": conditional,
    "11011111 iiiiiiii": lambda f: f"svc #{f['i']}",
    "11100 iiiiiiiiiii": lambda f: "b" + target(f, 11),
}


def text_of(half):
    for row, has in ROWS:
        fields = fields_of(row, half)
        if fields is not None and has(fields):
            return TEXTS[row](fields)
    return "half " + hex(half)


class EveryHalf(ChipCase):
    def test_by_the_table(self):
        wrong = []
        texts = set()
        for half in range(0x10000):
            shown = self.shown(half)
            texts.add(shown[1])
            if shown != (2, text_of(half)):
                wrong.append((half, shown))
        self.assertEqual(wrong[:20], [])
        # All hints are nop; else no two are written alike.
        self.assertEqual(len(texts), 0x10000 - 15)


class Gaps(ChipCase):
    def test_each_gap(self):
        for half, wanted in GAPS:
            self.text(half, wanted)
            self.text(half, wanted, at=0)
            self.text(half, wanted, at=0xFFFE)

    def test_the_first_half_at_the_very_end(self):
        for half in (0xF000, 0xF3BF, 0xF7FF, 0xF123):
            self.text(half, f"half {hex(half)}", at=0xFFFE)

    def test_nothing_is_read_from_the_beginning(self):
        for low_byte, high_byte in ((0x00, 0xF8), (0x4F, 0x8F)):
            answer = self.show_answer(0xFFFE, [0, 1, 0xFFFE, 0xFFFF], [low_byte, high_byte, 0xBF, 0xF3])
            self.assertEqual(answer, [2] + list(b"half 0xf3bf"))

    def test_the_last_that_fits(self):
        self.text([0xF7FF, 0xFFFE], "bl 0xfffc", at=0xFFFC)
        self.text([0xF3BF, 0x8F4F], "barrier", at=0xFFFC)

    def test_a_second_half_that_is_none(self):
        for second in (0x0000, 0x8000, 0xC000, 0xE800, 0x9000, 0xBFFF, 0x8F4F):
            self.assertEqual(self.shown([0xF123, second]), (2, "half 0xf123"))
        for second in (0x8F30, 0x8F3F, 0x8F70, 0x8E4F, 0x9F4F, 0x0F4F, 0xC000):
            self.assertEqual(self.shown([0xF3BF, second]), (2, "half 0xf3bf"))
        for first in (0xF3BE, 0xF3AF, 0xF7BF):
            self.assertEqual(self.shown([first, 0x8F4F]), (2, f"half {hex(first)}"))

    def test_the_second_half_by_itself(self):
        for half in (0xF800, 0xF801, 0xFFFE):
            self.assertEqual(self.shown([half, 0xF800]), (2, f"half {hex(half)}"))

    def test_every_second_half(self):
        wrong = []
        for second in range(0, 0x10000, 7):
            is_bl = fields_of("11 J 1 K iiiiiiiiiii", second) is not None
            is_barrier = second >> 4 in (0x8F4, 0x8F5, 0x8F6)
            length, text = self.shown([0xF123, second])
            if (length, text[:5]) != ((4, "bl 0x") if is_bl else (2, "half ")):
                wrong.append((second, text))
            length, text = self.shown([0xF3BF, second])
            if (length, text[:5]) != ((4, "bl 0x") if is_bl else (4, "barri") if is_barrier else (2, "half ")):
                wrong.append((second, text))
        self.assertEqual(wrong[:20], [])


if __name__ == "__main__":
    unittest.main()
