"""How instructions are written.

An instruction is a tuple as bits.py tells it; its operands are words that each have a def here. Such a def is given
the instruction and the place where it stands.
"""

from lesserchip.machine import WORD

REGISTERS = (
    "r0", "r1", "r2", "r3", "r4", "r5", "r6", "r7", "r8", "r9", "r10", "r11", "r12", "sp", "lr", "pc",
)
CONDITIONS = ("eq", "ne", "cs", "cc", "mi", "pl", "vs", "vc", "hi", "ls", "ge", "lt", "gt", "le")
DIGITS = "0123456789abcdef"
# What is done in a way of its own, but written like its kin.
WRITTEN_LIKE = {"ldr_pc": "ldr", "add_pc": "add"}


def hexadecimal(number):
    digits = DIGITS[number % 16]
    rest = number // 16
    while rest > 0:
        digits = DIGITS[rest % 16] + digits
        rest = rest // 16
    return "0x" + digits


def written_d(instruction, at):
    return REGISTERS[instruction[1]]


def written_n(instruction, at):
    return REGISTERS[instruction[2]]


def written_second(instruction, at):
    m = instruction[3]
    i = instruction[4]
    return f"#{i}" if m is None else REGISTERS[m]


def written_zero(instruction, at):
    return "#0"


def written_place(instruction, at):
    return "[" + written_n(instruction, at) + ", " + written_second(instruction, at) + "]"


# The ! says that n is raised, and ldm doesn't raise what it has loaded; stm raises n in any case.
def written_base(instruction, at):
    n = written_n(instruction, at)
    if instruction[0] == "ldm" and instruction[2] in instruction[4]:
        return n
    return n + "!"


def written_list(instruction, at):
    return "{" + ", ".join([REGISTERS[r] for r in instruction[4]]) + "}"


def written_target(instruction, at):
    return hexadecimal(at + 4 + instruction[4] & WORD)


WRITERS = {
    "d": written_d, "n": written_n, "second": written_second, "zero": written_zero, "place": written_place,
    "base": written_base, "list": written_list, "target": written_target,
}


def written_name(instruction):
    name = instruction[0]
    if name == "b_if":
        return "b" + CONDITIONS[instruction[1]]
    return WRITTEN_LIKE.get(name, name)


def instruction_text(instruction, at):
    name = written_name(instruction)
    operands = [WRITERS[word](instruction, at) for word in instruction[5]]
    if len(operands) == 0:
        return name
    return name + " " + ", ".join(operands)


def half_text(half):
    return "half " + hexadecimal(half)
