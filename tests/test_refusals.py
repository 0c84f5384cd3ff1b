"""Promise 2: what run refuses."""

import unittest

from chip import START, ChipCase, registers

MOST = 16777216


class Refusals(ChipCase):
    def state(self, regs=None, flag=0, eighteenth=0x12345678):
        return registers(regs) + [flag, eighteenth]

    def refused(self, number, n, state):
        for places, data in (([], []), ([START, START + 1], [0x05, 0x20])):
            self.assertEqual(self.answer(n, state, places, data), [number] + state)

    def taken(self, n, state):
        answer = self.answer(n, state, [START, START + 1], [0x07, 0xBE])
        self.assertEqual((answer[0], answer[18]), (0, 0 if n == 0 else 0x703))

    def test_n(self):
        for n in (-1, -2, MOST + 1, MOST + 2, -2147483648, 2147483647):
            self.refused(-1, n, self.state())
        for n in (0, 1, MOST - 1, MOST):
            self.taken(n, self.state())

    def test_r13(self):
        for value in (1, 2, 3, 0x8001, 0x8002, 0x8003, 0xFFFFFFFF, 0xFFFFFFFE, 0xFFFFFFFD):
            for n in (0, 1, MOST):
                self.refused(-2, n, self.state({13: value}))
        for value in (0, 4, 0x10000, 0xFFFFFFFC):
            self.taken(1, self.state({13: value}))

    def test_r15(self):
        for value in (1, 3, START + 1, 0xFFFF, 0x10001, 0xFFFFFFFF):
            for n in (0, 1, MOST):
                self.refused(-2, n, self.state({15: value}))

    def test_flags(self):
        for value in (16, 17, 31, 256, 0x80000000, 0xFFFFFFFF):
            for n in (0, 1, MOST):
                self.refused(-2, n, self.state(None, value))
        for value in range(16):
            self.taken(1, self.state(None, value))

    def test_n_comes_first(self):
        for n in (-1, MOST + 1):
            self.refused(-1, n, self.state({13: 1}))
            self.refused(-1, n, self.state({15: 1}))
            self.refused(-1, n, self.state(None, 16))
            self.refused(-1, n, self.state({13: 3, 15: 7}, 99))

    def test_all_of_the_state_is_given_back(self):
        for eighteenth in (0, 1, 0x703, 0xFFFFFFFF):
            self.refused(-1, -1, self.state(None, 0xFFFFFFFF, eighteenth))
            self.refused(-2, 5, self.state({13: 2, 15: 9}, 0xFFFFFFFF, eighteenth))

    def test_other_registers_hold_anything(self):
        for value in (0, 1, 3, 0xFFFFFFFF):
            self.taken(1, self.state({k: value for k in range(13)}))
            self.taken(1, self.state({14: value}))

    def test_the_answer_is_a_list_of_its_own(self):
        state = self.state(None, 16)
        answer = self.answer(0, state, [], [])
        answer[1] = 99
        self.assertEqual(state, self.state(None, 16))


if __name__ == "__main__":
    unittest.main()
