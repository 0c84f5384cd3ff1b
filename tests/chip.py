"""What the tests share: bits written as the document writes them, a step checked whole, and a text shown."""

import unittest

from lesserchip.core import run, show

START = 0x100
LETTERS = (("N", 8), ("Z", 4), ("C", 2), ("V", 1))
ORDINARY = [0x10000001 * (k + 1) & 0xFFFFFFFF for k in range(13)] + [0x8000, 0x1234ABCD, START]


def bits(template, **fields):
    """The number that a row of bits is, with a field for each small or capital letter of it."""
    signs = template.replace(" ", "")
    number = 0
    for at, sign in enumerate(signs):
        if sign in "01":
            bit = int(sign)
        else:
            bit = fields[sign] >> signs[at + 1:].count(sign) & 1
        number = 2 * number + bit
    for sign in fields:
        width = signs.count(sign)
        if width == 0 or not -(1 << width - 1) <= fields[sign] < 1 << width:
            raise ValueError(f"{sign} doesn't fit in {template}")
    return number


def fields_of(template, number):
    """The fields of a number by its letters, or None if the number isn't of that form."""
    found = {}
    for sign, bit in zip(template.replace(" ", ""), f"{number:016b}"):
        if sign in "01":
            if sign != bit:
                return None
        else:
            found[sign] = 2 * found.get(sign, 0) + int(bit)
    return found


def flags(letters):
    return sum(weight for letter, weight in LETTERS if letter in letters)


def registers(given, at=START):
    """Sixteen registers: the ones that are given, and ordinary values elsewhere."""
    values = list(ORDINARY)
    values[15] = at
    for k in given or {}:
        values[k] = given[k]
    return values


def bytes_of(number, size):
    return [number >> 8 * k & 255 for k in range(size)]


def words(place, *numbers):
    """Bytes by place, of numbers of 4 bytes from a place on."""
    found = {}
    for k, number in enumerate(numbers):
        for j, byte in enumerate(bytes_of(number, 4)):
            found[place + 4 * k + j] = byte
    return found


def program(halves, at=START):
    """Bytes by place, of numbers of 2 bytes from a place on."""
    found = {}
    for k, half in enumerate(halves):
        found[at + 2 * k] = half & 255
        found[at + 2 * k + 1] = half >> 8
    return found


def lowest_bytes(place, number, size):
    return dict((place + k, byte) for k, byte in enumerate(bytes_of(number, size)))


def always(f):
    return True


# A row of the table of instructions each: its bits, and what it doesn't have.
ROWS = (
    ("000 oo iiiii mmm ddd", lambda f: f["o"] <= 2),
    ("000110 S mmm nnn ddd", always),
    ("000111 S iii nnn ddd", always),
    ("001 oo ddd iiiiiiii", always),
    ("010000 oooo mmm ddd", always),
    ("010001 00 D mmmm ddd", lambda f: (f["D"], f["d"], f["m"]) != (1, 7, 15)),
    ("010001 01 D mmmm ddd", lambda f: (f["D"] or f["m"] >= 8) and f["m"] != 15 and (f["D"], f["d"]) != (1, 7)),
    ("010001 10 D mmmm ddd", always),
    ("010001 11 L mmmm 000", lambda f: f["m"] != 15),
    ("01001 ttt iiiiiiii", always),
    ("0101 ooo mmm nnn ttt", always),
    ("0110 L iiiii nnn ttt", always),
    ("0111 L iiiii nnn ttt", always),
    ("1000 L iiiii nnn ttt", always),
    ("1001 L ttt iiiiiiii", always),
    ("1010 S ddd iiiiiiii", always),
    ("10110000 S iiiiiii", always),
    ("10110010 oo mmm ddd", always),
    ("1011010 L llllllll", lambda f: f["L"] or f["l"]),
    ("1011110 L llllllll", lambda f: f["L"] or f["l"]),
    ("10111010 oo mmm ddd", lambda f: f["o"] != 2),
    ("10111110 iiiiiiii", always),
    ("10111111 oooo 0000", always),
    ("1100 L nnn llllllll", lambda f: f["l"] and (f["L"] or not f["l"] >> f["n"] & 1 or not f["l"] % (1 << f["n"]))),
    ("1101 cccc iiiiiiii", lambda f: f["c"] <= 13),
    ("11011111 iiiiiiii", always),
    ("11100 iiiiiiiiiii", always),
)


def is_instruction(half):
    for row, has in ROWS:
        fields = fields_of(row, half)
        if fields is not None and has(fields):
            return True
    return False


class Fixed(list):
    """A list that fails when it's changed, be it for a while."""

    def refuse(self, *given):
        raise AssertionError("what was handed in is changed")

    append = extend = insert = pop = remove = clear = sort = reverse = refuse
    __setitem__ = __delitem__ = __iadd__ = __imul__ = refuse


class Outcome:
    """What run answered, in parts."""

    def __init__(self, answer):
        self.steps = answer[0]
        self.regs = answer[1:17]
        self.flags = answer[17]
        self.end = answer[18]
        rest = answer[19:]
        self.changes = dict(zip(rest[0::2], rest[1::2]))


class ChipCase(unittest.TestCase):
    maxDiff = None

    def answer(self, n, state, places, data):
        """What run answers, once it's seen that it has the form it must have and changed nothing it was given."""
        handed = (list(state), list(places), list(data))
        answer = run(n, state, places, data)
        self.assertEqual((state, places, data), handed)
        self.assertIs(type(answer), list)
        self.assertTrue(all(type(number) is int for number in answer), answer)
        self.assertEqual(len(answer) % 2, 1)
        self.assertGreaterEqual(len(answer), 19)
        self.assertEqual(answer[19::2], sorted(set(answer[19::2])))
        self.assertTrue(all(0 <= number < 2 ** 32 for number in answer[1:19]), answer)
        return answer

    def run_bytes(self, memory, n=1, regs=None, flag="", at=START, eighteenth=0):
        state = registers(regs, at) + [flags(flag), eighteenth]
        return Outcome(self.answer(n, state, list(memory), list(memory.values())))

    def run_halves(self, halves, n=1, regs=None, flag="", memory=None, at=START):
        """Run a program that lies at a place, in a memory with other bytes elsewhere."""
        return self.run_bytes({**(memory or {}), **program(halves, at)}, n, regs, flag, at)

    def step(self, half, regs=None, flag="", after=None, flag_after=None, memory=None, changes=None, at=START, end=0):
        """Do one instruction, and see that it does what is told here and nothing else."""
        halves = half if isinstance(half, list) else [half]
        outcome = self.run_halves(halves, 1, regs, flag, memory, at)
        wanted = registers(regs, at)
        wanted[15] = at + 2 * len(halves)
        for k in after or {}:
            wanted[k] = after[k]
        told = f"{halves[0]:04x}, {regs}, {flag}"
        self.assertEqual((outcome.end, outcome.steps), (end, 1), told)
        self.assertEqual([hex(value) for value in outcome.regs], [hex(value) for value in wanted], told)
        self.assertEqual(outcome.flags, flags(flag if flag_after is None else flag_after), told)
        self.assertEqual(outcome.changes, changes or {}, told)

    def undone(self, half, end, regs=None, flag="NV", memory=None, at=START):
        """See that an instruction ends the run, is no step, and leaves all as it was."""
        halves = half if isinstance(half, list) else [half]
        outcome = self.run_halves(halves, 3, regs, flag, memory, at)
        told = f"{halves[0]:04x}, {regs}"
        self.assertEqual((outcome.end, outcome.steps), (end, 0), told)
        self.assertEqual(outcome.regs, registers(regs, at), told)
        self.assertEqual(outcome.flags, flags(flag), told)
        self.assertEqual(outcome.changes, {}, told)

    def show_answer(self, at, places, data):
        """What show answers, once it's seen that it has the form it must have and changed nothing it was given."""
        handed = (list(places), list(data))
        answer = show(at, places, data)
        self.assertEqual((places, data), handed)
        self.assertIs(type(answer), list)
        self.assertTrue(all(type(number) is int for number in answer), answer)
        if answer[0] == -1:
            self.assertEqual(answer, [-1])
        else:
            self.assertIn(answer[0], (2, 4))
            self.assertTrue(all(32 <= number <= 126 for number in answer[1:]), answer)
        return answer

    def shown(self, half, at=START):
        """How many bytes an instruction at a place takes, and its text."""
        memory = program(half if isinstance(half, list) else [half], at)
        answer = self.show_answer(at, list(memory), list(memory.values()))
        return answer[0], bytes(answer[1:]).decode("ascii")

    def text(self, half, wanted, at=START):
        """See that an instruction has a text, and takes as many bytes as it has."""
        length = 2 * len(half) if isinstance(half, list) else 2
        self.assertEqual(self.shown(half, at), (length, wanted))
