"""All else is no instruction: each gap of the table, by all numbers of 16 bits."""

import unittest

from chip import START, ChipCase, Outcome, bits, fields_of, program, registers


def always(f):
    return True


# A row of the table of instructions each: its bits, and what it doesn't have.
ROWS = (
    ("000 oo iiiii mmm ddd", lambda f: f["o"] <= 2),
    ("000110 S mmm nnn ddd", always),
    ("000111 S iii nnn ddd", always),
    ("001 oo ddd iiiiiiii", always),
    ("010000 oooo mmm ddd", always),
    ("010001 00 D mmmm ddd", lambda f: (f["D"], f["d"], f["m"]) != (1, 7, 15)),
    ("010001 01 D mmmm ddd", lambda f: (f["D"] or f["m"] >= 8) and f["m"] != 15 and (f["D"], f["d"]) != (1, 7)),
    ("010001 10 D mmmm ddd", always),
    ("010001 11 L mmmm 000", lambda f: f["m"] != 15),
    ("01001 ttt iiiiiiii", always),
    ("0101 ooo mmm nnn ttt", always),
    ("0110 L iiiii nnn ttt", always),
    ("0111 L iiiii nnn ttt", always),
    ("1000 L iiiii nnn ttt", always),
    ("1001 L ttt iiiiiiii", always),
    ("1010 S ddd iiiiiiii", always),
    ("10110000 S iiiiiii", always),
    ("10110010 oo mmm ddd", always),
    ("1011010 L llllllll", lambda f: f["L"] or f["l"]),
    ("1011110 L llllllll", lambda f: f["L"] or f["l"]),
    ("10111010 oo mmm ddd", lambda f: f["o"] != 2),
    ("10111110 iiiiiiii", always),
    ("10111111 oooo 0000", always),
    ("1100 L nnn llllllll", lambda f: f["l"] and (f["L"] or not f["l"] >> f["n"] & 1 or not f["l"] % (1 << f["n"]))),
    ("1101 cccc iiiiiiii", lambda f: f["c"] <= 13),
    ("11011111 iiiiiiii", always),
    ("11100 iiiiiiiiiii", always),
)


def is_instruction(half):
    for row, has in ROWS:
        fields = fields_of(row, half)
        if fields is not None and has(fields):
            return True
    return False


class Gaps(ChipCase):
    def end_of(self, halves, at=START):
        memory = program(halves, at)
        state = registers(None, at) + [0, 0]
        return Outcome(self.answer(1, state, list(memory), list(memory.values())))

    def test_every_half(self):
        wrong = []
        for half in range(0x10000):
            outcome = self.end_of([half])
            if (outcome.end == 1) == is_instruction(half):
                wrong.append(hex(half))
            if outcome.end == 1 and (outcome.steps, outcome.regs) != (0, registers(None)):
                wrong.append(hex(half))
        self.assertEqual(wrong, [])

    def test_every_first_half_with_a_second(self):
        for first in range(0xE800, 0x10000, 5):
            is_bl = fields_of("11110 S iiiiiiiiii", first) is not None
            for second in (0xD000, 0xF800, 0xFFFF, 0xD7FF):
                self.assertEqual(self.end_of([first, second]).end, 0 if is_bl else 1, (first, second))

    def test_every_second_half(self):
        wrong = []
        for second in range(0, 0x10000, 3):
            is_bl = fields_of("11 J 1 K iiiiiiiiiii", second) is not None
            if self.end_of([0xF123, second]).end != (0 if is_bl else 1):
                wrong.append(hex(second))
            is_barrier = second >> 4 in (0x8F4, 0x8F5, 0x8F6)
            if self.end_of([0xF3BF, second]).end != (0 if is_bl or is_barrier else 1):
                wrong.append(hex(second))
        self.assertEqual(wrong, [])

    def test_named_gaps(self):
        for half in (0x4700 | 1, 0x4778, 0x47F8, 0xB100, 0xB300, 0xB662, 0xB672, 0xB700, 0xB800, 0xB900, 0xBA80, 0xBB00,
                     0xBF01, 0xBF08, 0xDE00, 0xDEFF, 0xE800, 0xEFFF, 0xF800, 0xFFFF, 0xB400, 0xBC00, 0xC000, 0xC800):
            self.undone(half, 1)

    def test_at_the_very_end(self):
        for half in (0xF000, 0xF7FF, 0xF3BF, 0xF123, 0xDE00):
            self.undone(half, 1, at=0xFFFE)
        self.undone(bits("11110 S iiiiiiiiii", S=0, i=0), 1, at=0xFFFE, memory={0: 0x00, 1: 0xF8})


if __name__ == "__main__":
    unittest.main()
