"""All else is no instruction: each gap of the table, by all numbers of 16 bits."""

import unittest

from chip import START, ChipCase, Outcome, bits, fields_of, is_instruction, program, registers


class Gaps(ChipCase):
    def end_of(self, halves, at=START):
        memory = program(halves, at)
        state = registers(None, at) + [0, 0]
        return Outcome(self.answer(1, state, list(memory), list(memory.values())))

    def test_every_half(self):
        wrong = []
        for half in range(0x10000):
            outcome = self.end_of([half])
            if (outcome.end == 1) == is_instruction(half):
                wrong.append(hex(half))
            if outcome.end == 1 and (outcome.steps, outcome.regs) != (0, registers(None)):
                wrong.append(hex(half))
        self.assertEqual(wrong, [])

    def test_every_first_half_with_a_second(self):
        for first in range(0xE800, 0x10000, 5):
            is_bl = fields_of("11110 S iiiiiiiiii", first) is not None
            for second in (0xD000, 0xF800, 0xFFFF, 0xD7FF):
                self.assertEqual(self.end_of([first, second]).end, 0 if is_bl else 1, (first, second))

    def test_every_second_half(self):
        wrong = []
        for second in range(0, 0x10000, 3):
            is_bl = fields_of("11 J 1 K iiiiiiiiiii", second) is not None
            if self.end_of([0xF123, second]).end != (0 if is_bl else 1):
                wrong.append(hex(second))
            is_barrier = second >> 4 in (0x8F4, 0x8F5, 0x8F6)
            if self.end_of([0xF3BF, second]).end != (0 if is_bl or is_barrier else 1):
                wrong.append(hex(second))
        self.assertEqual(wrong, [])

    def test_named_gaps(self):
        for half in (0x4700 | 1, 0x4778, 0x47F8, 0xB100, 0xB300, 0xB662, 0xB672, 0xB700, 0xB800, 0xB900, 0xBA80, 0xBB00,
                     0xBF01, 0xBF08, 0xDE00, 0xDEFF, 0xE800, 0xEFFF, 0xF800, 0xFFFF, 0xB400, 0xBC00, 0xC000, 0xC800):
            self.undone(half, 1)

    def test_at_the_very_end(self):
        for half in (0xF000, 0xF7FF, 0xF3BF, 0xF123, 0xDE00):
            self.undone(half, 1, at=0xFFFE)
        self.undone(bits("11110 S iiiiiiiiii", S=0, i=0), 1, at=0xFFFE, memory={0: 0x00, 1: 0xF8})


if __name__ == "__main__":
    unittest.main()
