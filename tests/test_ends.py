"""Promise 1: how a run ends, how many steps are counted, and the state that is left."""

import unittest

from chip import START, ChipCase, flags, registers

MOST = 16777216
NOP = 0xBF00
BRANCH_HERE = 0xE7FE
ADDS_R0_1 = 0x3001


class StepsDone(ChipCase):
    def test_none_asked_for(self):
        for half in (NOP, 0xBE07, 0xDF07, 0xDE00, 0x4700):
            outcome = self.run_halves([half], 0, flag="NZ")
            self.assertEqual((outcome.steps, outcome.end, outcome.regs), (0, 0, registers(None)))
            self.assertEqual((outcome.flags, outcome.changes), (flags("NZ"), {}))

    def test_none_asked_for_beyond_memory(self):
        outcome = self.run_bytes({}, 0, at=0x10000)
        self.assertEqual((outcome.steps, outcome.end, outcome.regs[15]), (0, 0, 0x10000))

    def test_some(self):
        for n in (1, 2, 3):
            outcome = self.run_halves([ADDS_R0_1] * 3, n, {0: 0})
            self.assertEqual((outcome.steps, outcome.end), (n, 0))
            self.assertEqual((outcome.regs[0], outcome.regs[15]), (n, START + 2 * n))

    def test_what_would_end_the_run_is_not_looked_at(self):
        for half in (0xBE07, 0xDF07, 0xDE00, 0x4700):
            outcome = self.run_halves([NOP, half], 1)
            self.assertEqual((outcome.steps, outcome.end, outcome.regs[15]), (1, 0, START + 2))
        outcome = self.run_halves([NOP], 1, at=0xFFFE)
        self.assertEqual((outcome.steps, outcome.end, outcome.regs[15]), (1, 0, 0x10000))

    def test_empty_memory_is_movs(self):
        outcome = self.run_bytes({}, MOST, {0: 0}, at=0)
        self.assertEqual((outcome.steps, outcome.end, outcome.regs[15]), (32768, 5, 0x10000))
        self.assertEqual(outcome.flags, flags("Z"))

    def test_many(self):
        outcome = self.run_halves([ADDS_R0_1, 0xE7FD], 200001, {0: 0})
        self.assertEqual((outcome.steps, outcome.end), (200001, 0))
        self.assertEqual((outcome.regs[0], outcome.regs[15]), (100001, START + 2))


class EndsAsTold(ChipCase):
    def ends(self, halves, steps, end, place, n=MOST, regs=None, at=START):
        outcome = self.run_halves(halves, n, regs, at=at)
        self.assertEqual((outcome.steps, outcome.end, outcome.regs[15]), (steps, end, place))

    def test_no_instruction(self):
        self.ends([0xDE00], 0, 1, START)
        self.ends([NOP, NOP, 0xDEFF], 2, 1, START + 4)
        self.ends([NOP, 0xF000], 1, 1, 0xFFFE, at=0xFFFC)

    def test_no_place(self):
        self.ends([0x6800], 0, 2, START, regs={0: 1})
        self.ends([NOP, 0x4718], 1, 2, START + 2, regs={3: 0x2000})
        self.ends([NOP, 0x6018], 1, 2, START + 2, regs={3: 0x10000})

    def test_bkpt(self):
        for number in (0, 1, 7, 255):
            self.ends([NOP, 0xBE00 + number], 1, 3 + 256 * number, START + 2)
            self.ends([0xBE00 + number], 0, 3 + 256 * number, START, n=1)
            self.undone(0xBE00 + number, 3 + 256 * number)

    def test_svc(self):
        for number in (0, 1, 7, 255):
            self.ends([NOP, 0xDF00 + number, NOP], 2, 4 + 256 * number, START + 4)
            self.ends([NOP, 0xDF00 + number, NOP], 2, 4 + 256 * number, START + 4, n=2)
            self.step(0xDF00 + number, None, "NCV", end=4 + 256 * number)
        self.ends([0xDF09], 1, 4 + 256 * 9, 0x10000, at=0xFFFE)

    def test_beyond_memory(self):
        self.ends([NOP], 1, 5, 0x10000, at=0xFFFE)
        self.ends([NOP, NOP], 2, 5, 0x10000, n=3, at=0xFFFC)
        self.ends([0xE7FC], 1, 5, 0xFFFFFFFC, at=0)
        self.ends([0x4718], 1, 5, 0xFFFFFFFE, regs={3: 0xFFFFFFFF})
        self.ends([0x469F], 1, 5, 0x10000, regs={3: 0x10001})

    def test_beyond_memory_from_the_beginning(self):
        for place in (0x10000, 0x10002, 0x80000000, 0xFFFFFFFE):
            outcome = self.run_bytes({0: 0x00, 1: 0xBF}, MOST, at=place, flag="V")
            self.assertEqual((outcome.steps, outcome.end), (0, 5))
            self.assertEqual((outcome.regs, outcome.flags), (registers(None, place), 1))

    def test_the_eighteenth_number_before_is_not_looked_at(self):
        for before in (0, 1, 2, 5, 0x703, 0xFFFFFFFF):
            memory = {START: 0x00, START + 1: 0xBF, START + 2: 0x07, START + 3: 0xBE}
            for n, end in ((0, 0), (1, 0), (2, 0x703), (MOST, 0x703)):
                outcome = self.run_bytes(memory, n, eighteenth=before)
                self.assertEqual((outcome.steps, outcome.end), (min(n, 1), end))

    def test_every_flag_comes_through(self):
        for number in range(16):
            state = registers(None) + [number, 0]
            answer = self.answer(1, state, [START, START + 1], [0x00, 0xBF])
            self.assertEqual(answer[17], number)


class Programs(ChipCase):
    def test_sum_of_a_row(self):
        # movs r0, 0; movs r1, 10; adds r0, r0, r1; subs r1, 1; bne; bkpt 0
        outcome = self.run_halves([0x2000, 0x210A, 0x1840, 0x3901, 0xD1FC, 0xBE00], MOST)
        self.assertEqual((outcome.regs[0], outcome.steps, outcome.end), (55, 32, 3))

    def test_a_call_with_a_stack(self):
        # movs r0, 5; bl +8; svc 1; nop; (there:) push {r4, lr}; movs r4, 3; muls r0, r4; pop {r4, pc}
        halves = [0x2005, 0xF000, 0xF802, 0xDF01, NOP, 0xB510, 0x2403, 0x4360, 0xBD10]
        outcome = self.run_halves(halves, MOST, {4: 0x44444444})
        self.assertEqual((outcome.regs[0], outcome.regs[4], outcome.regs[13]), (15, 0x44444444, 0x8000))
        self.assertEqual((outcome.steps, outcome.end, outcome.regs[15]), (7, 0x104, START + 8))

    def test_a_program_that_writes_itself(self):
        # strh r1, [r0, 0]; b there; (there:) what was written
        halves = [0x8001, 0xE7FF, NOP]
        outcome = self.run_halves(halves, 3, {0: START + 4, 1: 0x2209})
        self.assertEqual((outcome.steps, outcome.end, outcome.regs[2]), (3, 0, 9))
        self.assertEqual(outcome.changes, {START + 4: 0x09, START + 5: 0x22})

    def test_a_program_that_writes_what_it_did_before(self):
        # adds r2, 1; strh r1, [r0, 0]; b to the first
        halves = [0x3201, 0x8001, 0xE7FC]
        outcome = self.run_halves(halves, 4, {0: START, 1: 0x3205, 2: 0})
        self.assertEqual((outcome.steps, outcome.regs[2]), (4, 6))

    def test_a_program_that_writes_the_second_half_it_did_before(self):
        # bl +0; strh r1, [r0, 2]; b to the first
        halves = [0xF000, 0xF800, 0x8041, 0xE7FB]
        outcome = self.run_halves(halves, 4, {0: START, 1: 0xF806})
        self.assertEqual((outcome.steps, outcome.end, outcome.regs[15]), (4, 0, START + 16))

    def test_nothing_is_kept_between_calls(self):
        first = self.run_halves([0x8001, BRANCH_HERE], 5, {0: START + 0x40, 1: 0x1234})
        self.run_halves([0xBE01], 5, {0: 3})
        again = self.run_halves([0x8001, BRANCH_HERE], 5, {0: START + 0x40, 1: 0x1234})
        self.assertEqual(vars(first), vars(again))


if __name__ == "__main__":
    unittest.main()
