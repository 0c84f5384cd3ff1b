"""Promise 3: what show refuses, and the memory that is handed to it."""

import os
import subprocess
import sys
import unittest

from chip import START, ChipCase, Fixed, registers
from lesserchip.core import run, show

MOVS_R0_R0 = [2] + list(b"movs r0, r0")
ROOT = os.path.dirname(os.path.dirname(os.path.abspath(__file__)))


class Refusals(ChipCase):
    def test_odd(self):
        for at in (1, 3, START + 1, 0xFFFD, 65535, 65537, 0x7FFFFFFF, 0x80000001, 4294967295):
            self.assertEqual(self.show_answer(at, [], []), [-1])
            self.assertEqual(self.show_answer(at, [0, 1, 0xFFFF], [1, 2, 3]), [-1])

    def test_beyond_memory(self):
        for at in (65536, 65538, 0x10100, 0x7FFFFFFE, 0x80000000, 4294901760, 4294967294):
            self.assertEqual(self.show_answer(at, [], []), [-1])
            self.assertEqual(self.show_answer(at, [0, 1, 0xFFFF], [1, 2, 3]), [-1])

    def test_not_refused(self):
        for at in (0, 2, START, 65532, 65534):
            self.assertEqual(self.show_answer(at, [], []), MOVS_R0_R0)
        self.text(0xDE00, "half 0xde00", at=65534)
        self.text(0x2281, "movs r2, #129", at=65534)

    def test_each_place_there_is(self):
        for at in range(0, 65536, 641):
            self.assertEqual(self.show_answer(at, [], []), [-1] if at % 2 else MOVS_R0_R0)


class Memory(ChipCase):
    def test_nothing_handed_in(self):
        self.assertEqual(self.show_answer(START, [], []), MOVS_R0_R0)

    def test_only_one_byte_of_an_instruction(self):
        self.assertEqual(self.show_answer(START, [START], [9]), [2] + list(b"movs r1, r1"))
        self.assertEqual(self.show_answer(START, [START + 1], [0x20]), [2] + list(b"movs r0, #0"))

    def test_later_ones_over_earlier_ones(self):
        places = [START, START + 1, START, START + 1, START]
        self.assertEqual(self.show_answer(START, places, [1, 0x20, 2, 0x21, 3]), [2] + list(b"movs r1, #3"))
        self.assertEqual(self.show_answer(START, places, [1, 0x20, 2, 0, 0]), MOVS_R0_R0)

    def test_places_in_any_order(self):
        places = [START + 3, START + 1, START + 2, START]
        answer = self.show_answer(START, places, [0xF8, 0xF0, 0x02, 0x00])
        self.assertEqual(answer, [4] + list(b"bl 0x108"))

    def test_what_lies_elsewhere(self):
        places = [START - 2, START - 1, START, START + 1, START + 2, START + 3]
        self.assertEqual(self.show_answer(START, places, [0, 0xF0, 1, 0x20, 0, 0xBE]), [2] + list(b"movs r0, #1"))

    def test_very_many(self):
        places = list(range(5536, 65536))
        self.assertEqual(self.show_answer(0xFFFE, places, [0x07, 0xBE] * 30000), [2] + list(b"bkpt #7"))
        places = [START] * 59999 + [START + 1]
        self.assertEqual(self.show_answer(START, places, [0] * 59998 + [9, 0x20]), [2] + list(b"movs r0, #9"))

    def test_one_list_for_both(self):
        same = [0, 1, 2, 3]
        self.assertEqual(self.show_answer(0, same, same), [2] + list(b"lsls r0, r0, #4"))


class NotChanged(ChipCase):
    def test_not_for_a_while_either(self):
        places = Fixed([START, START + 1, START])
        data = Fixed([0x02, 0x20, 0x01])
        self.assertEqual(show(START, places, data), [2] + list(b"movs r0, #1"))
        self.assertEqual(show(START + 1, places, data), [-1])
        self.assertEqual(show(65536, places, data), [-1])

    def test_lists_stay_as_they_were(self):
        places = [START, START + 1, START, 0x3000]
        data = [0x02, 0x20, 0x01, 9]
        for at in (START, START + 1, 65536):
            show(at, places, data)
            self.assertEqual((places, data), ([START, START + 1, START, 0x3000], [0x02, 0x20, 0x01, 9]))


class NothingKept(ChipCase):
    def test_each_call_by_itself(self):
        for at in (START, START, 0x2000, START):
            self.text(0xBE07, "bkpt #7", at)
            self.assertEqual(self.show_answer(at, [], []), MOVS_R0_R0)

    def test_an_answer_that_is_changed(self):
        for at, places, data in ((START, [], []), (START, [START + 1], [0xDE]), (1, [], [])):
            first = show(at, places, data)
            wanted = list(first)
            first[0] = 99
            first.append(7)
            self.assertEqual(show(at, places, data), wanted)

    def test_run_and_show_between(self):
        state = registers({0: START, 1: 0xBE01}) + [0, 0]
        # strh r1, [r0, 0]: the run writes over what show reads
        places, data = [START, START + 1], [0x01, 0x80]
        ran = run(1, state, places, data)
        self.assertEqual(show(START, places, data), [2] + list(b"strh r1, [r0, #0]"))
        self.assertEqual(run(1, state, places, data), ran)
        self.assertEqual(show(START, places, data), [2] + list(b"strh r1, [r0, #0]"))


class NothingPrinted(unittest.TestCase):
    def test_nothing_printed_read_or_imported(self):
        lines = (
            "import sys",
            "from lesserchip.core import run, show",
            "before = set(sys.modules)",
            "show(0, [0], [1]), show(1, [], []), run(3, [0] * 18, [0], [1])",
            "sys.exit(len(set(sys.modules) - before))",
        )
        done = subprocess.run([sys.executable, "-c", "\n".join(lines)], cwd=ROOT, input=b"", capture_output=True)
        self.assertEqual((done.returncode, done.stdout, done.stderr), (0, b"", b""))


if __name__ == "__main__":
    unittest.main()
