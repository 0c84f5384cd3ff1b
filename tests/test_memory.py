"""Memory: the bytes that are handed in, and those that are told when they aren't what they were."""

import unittest

from chip import START, ChipCase, Fixed, registers, words
from lesserchip.core import run

STRB_R1_R0 = 0x7001
STR_R1_R0 = 0x6001


class HandedIn(ChipCase):
    def run_pairs(self, pairs, n=1, regs=None):
        places = [place for place, byte in pairs]
        return self.answer(n, registers(regs) + [0, 0], places, [byte for place, byte in pairs])

    def test_later_ones_over_earlier_ones(self):
        answer = self.run_pairs([(START, 1), (START + 1, 0x20), (START, 2), (START + 1, 0x21), (START, 3)])
        self.assertEqual((answer[1], answer[2]), (registers(None)[0], 3))

    def test_what_was_is_the_last_that_was_handed_in(self):
        program = [(START, 0x01), (START + 1, 0x70)]
        twice = program + [(0x2000, 7), (0x2000, 9)]
        self.assertEqual(self.run_pairs(twice, regs={0: 0x2000, 1: 9})[19:], [])
        self.assertEqual(self.run_pairs(twice, regs={0: 0x2000, 1: 7})[19:], [0x2000, 7])

    def test_places_in_any_order(self):
        answer = self.run_pairs([(START + 3, 0x21), (START + 1, 0x20), (START + 2, 6), (START, 5)], 2)
        self.assertEqual((answer[0], answer[1:3]), (2, [5, 6]))

    def test_nothing_handed_in(self):
        answer = self.answer(3, registers({0: 7}) + [15, 1], [], [])
        wanted = registers({0: 7, 15: START + 6})
        self.assertEqual(answer, [3] + wanted + [3, 0])

    def test_very_many(self):
        places = list(range(60000))
        data = [0x00, 0xBF] * 30000
        answer = self.answer(16777216, registers(None, 0) + [0, 0], places, data)
        self.assertEqual((answer[0], answer[16], answer[18], len(answer)), (32768, 0x10000, 5, 19))

    def test_one_place_very_often(self):
        places = [START] * 59999 + [START + 1]
        answer = self.answer(1, registers(None) + [0, 0], places, [0] * 59998 + [9, 0x20])
        self.assertEqual((answer[0], answer[1]), (1, 9))

    def test_the_last_bytes(self):
        answer = self.answer(1, registers(None, 0xFFFE) + [0, 0], [0xFFFF, 0xFFFE], [0x22, 0x81])
        self.assertEqual((answer[0], answer[3], answer[16]), (1, 0x81, 0x10000))


class Told(ChipCase):
    def test_a_byte_that_was_so_is_not_told(self):
        memory = words(0x2000, 0x04030201)
        outcome = self.run_halves([STR_R1_R0], 1, {0: 0x2000, 1: 0x04030201}, memory=memory)
        self.assertEqual((outcome.steps, outcome.changes), (1, {}))
        outcome = self.run_halves([STR_R1_R0], 1, {0: 0x2000, 1: 0x04FF02FF}, memory=memory)
        self.assertEqual(outcome.changes, {0x2000: 0xFF, 0x2002: 0xFF})

    def test_0_over_0_is_not_told(self):
        outcome = self.run_halves([STR_R1_R0], 1, {0: 0x2000, 1: 0x00010000})
        self.assertEqual(outcome.changes, {0x2002: 1})

    def test_a_byte_that_becomes_0(self):
        outcome = self.run_halves([STRB_R1_R0], 1, {0: 0x2000, 1: 0x100}, memory={0x2000: 5})
        self.assertEqual(outcome.changes, {0x2000: 0})

    def test_a_byte_that_is_again_what_it_was(self):
        # strb r1, [r0, 0]; strb r2, [r0, 0]
        outcome = self.run_halves([0x7001, 0x7002], 2, {0: 0x2000, 1: 9, 2: 5}, memory={0x2000: 5})
        self.assertEqual((outcome.steps, outcome.changes), (2, {}))
        outcome = self.run_halves([0x7001, 0x7002], 1, {0: 0x2000, 1: 9, 2: 5}, memory={0x2000: 5})
        self.assertEqual(outcome.changes, {0x2000: 9})

    def test_in_order_of_places(self):
        # strb r4, [r0, 0]; strb r4, [r1, 0]; strb r4, [r2, 0]; strb r4, [r3, 0]
        memory = {START + k: byte for k, byte in enumerate([0x04, 0x70, 0x0C, 0x70, 0x14, 0x70, 0x1C, 0x70])}
        state = registers({0: 0xFFFF, 1: 0x2001, 2: 0, 3: 0x2000, 4: 0xAB}) + [0, 0]
        answer = self.answer(4, state, list(memory), list(memory.values()))
        self.assertEqual(answer[19:], [0, 0xAB, 0x2000, 0xAB, 0x2001, 0xAB, 0xFFFF, 0xAB])

    def test_what_was_written_before_the_run_ended(self):
        for last, end in ((0xDE00, 1), (0x4700, 2), (0xBE02, 0x203), (0xDF02, 0x204)):
            outcome = self.run_halves([STRB_R1_R0, last], 9, {0: 0x2000, 1: 5})
            self.assertEqual((outcome.end, outcome.changes), (end, {0x2000: 5}))

    def test_a_refused_run_tells_no_bytes(self):
        self.assertEqual(len(self.answer(-1, registers(None) + [0, 0], [0], [1])), 19)


class NotChanged(ChipCase):
    def test_not_for_a_while_either(self):
        state = Fixed(registers({0: START, 1: 0x2122}) + [5, 77])
        places = Fixed([START, START + 1, START])
        data = Fixed([0x02, 0x80, 0x01])
        self.assertEqual(run(2, state, places, data)[0], 2)
        self.assertEqual(run(-1, state, places, data)[0], -1)
        state = Fixed(registers({15: 1}) + [5, 77])
        self.assertEqual(run(2, state, places, data)[0], -2)

    def test_lists_stay_as_they_were(self):
        state = registers({0: START, 1: 0x2122}) + [5, 77]
        places = [START, START + 1, START, 0x3000]
        data = [0x02, 0x80, 0x01, 9]
        before = (list(state), list(places), list(data))
        first = self.answer(2, state, places, data)
        self.assertEqual((state, places, data), before)
        self.assertEqual(self.answer(2, state, places, data), first)
        self.assertEqual(first[19:], [START, 0x22, START + 1, 0x21])

    def test_one_list_for_both(self):
        same = [0, 1, 2, 3]
        self.assertEqual(self.answer(0, registers(None) + [0, 0], same, same)[0], 0)


if __name__ == "__main__":
    unittest.main()
