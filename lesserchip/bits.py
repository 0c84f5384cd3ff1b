"""What instruction some bits are.

An instruction is a tuple (name, d, n, m, i, operands):
- name: what is done. Where one name is done in several ways, the others are called ldr_pc, add_pc and b_if.
- d: the register that is written or stored; for b_if the condition.
- n: the register with the first operand, or with the place where loads and stores begin.
- m: the register with the second operand, or None: then the second operand is i.
- i: a number as it is added or shifted by (so multiplied, and with its sign); for lists, a tuple of registers.
- operands: what its text has behind the name, in order, by the words that text.py knows. The same is done by
  adds r1, #2 and adds r1, r1, #2, so this can't be told from the rest.
What an instruction doesn't have is None, or 0 for i.
"""

from lesserchip.machine import LR, PC, SIZE, SP, half_at, with_sign

NONE = ("none", None, None, None, 0, ())
WIDE = 30

ALONE = ()
OF_ONE = ("second",)
OF_TWO = ("d", "second")
OF_TWO_AND_ZERO = ("d", "second", "zero")
OF_THREE = ("d", "n", "second")
WITH_PLACE = ("d", "place")
WITH_LIST = ("list",)
WITH_BASE_AND_LIST = ("base", "list")
WITH_TARGET = ("target",)

SHIFTS = ("lsls", "lsrs", "asrs")
WITH_BYTE = ("movs", "cmp", "adds", "subs")
TWO_LOW = (
    "ands", "eors", "lsls", "lsrs", "asrs", "adcs", "sbcs", "rors",
    "tst", "rsbs", "cmp", "cmn", "orrs", "muls", "bics", "mvns",
)
TWO_HIGH = ("add", "cmp", "mov")
BY_REGISTER = ("str", "strh", "strb", "ldrsb", "ldr", "ldrh", "ldrb", "ldrsh")
BY_NUMBER = (("str", 4), ("ldr", 4), ("strb", 1), ("ldrb", 1), ("strh", 2), ("ldrh", 2))
EXTENSIONS = ("sxth", "sxtb", "uxth", "uxtb")
TURNS = ("rev", "rev16", "none", "revsh")


def no_instruction(half):
    return NONE


def shift_by_number(half):
    d = half & 7
    m = half >> 3 & 7
    i = half >> 6 & 31
    name = SHIFTS[half >> 11]
    if i == 0 and name == "lsls":
        return ("movs", d, None, m, 0, OF_TWO)
    return (name, d, m, None, 32 if i == 0 else i, OF_THREE)


def sum_of_three(half):
    name = "subs" if half & 0x200 else "adds"
    d = half & 7
    n = half >> 3 & 7
    x = half >> 6 & 7
    if half & 0x400:
        return (name, d, n, None, x, OF_THREE)
    return (name, d, n, x, 0, OF_THREE)


def with_byte(half):
    d = half >> 8 & 7
    return (WITH_BYTE[half >> 11 & 3], d, d, None, half & 255, OF_TWO)


def with_registers(half):
    if half & 0x400:
        return with_high_registers(half)
    d = half & 7
    name = TWO_LOW[half >> 6 & 15]
    return (name, d, d, half >> 3 & 7, 0, OF_TWO_AND_ZERO if name == "rsbs" else OF_TWO)


def with_high_registers(half):
    kind = half >> 8 & 3
    if kind == 3:
        return branch_to_register(half)
    d = half >> 4 & 8 | half & 7
    m = half >> 3 & 15
    name = TWO_HIGH[kind]
    if name == "add" and d == PC and m == PC:
        return NONE
    if name == "cmp" and (d == PC or m == PC or d < 8 and m < 8):
        return NONE
    return (name, d, d, m, 0, OF_TWO)


def branch_to_register(half):
    m = half >> 3 & 15
    if half & 7 or m == PC:
        return NONE
    return ("blx" if half & 0x80 else "bx", None, None, m, 0, OF_ONE)


def load_from_program(half):
    return ("ldr_pc", half >> 8 & 7, PC, None, 4 * (half & 255), WITH_PLACE)


def move_by_register(half):
    return (BY_REGISTER[half >> 9 & 7], half & 7, half >> 3 & 7, half >> 6 & 7, 0, WITH_PLACE)


def move_by_number(half):
    way = BY_NUMBER[(half >> 11) - 12]
    return (way[0], half & 7, half >> 3 & 7, None, way[1] * (half >> 6 & 31), WITH_PLACE)


def move_on_stack(half):
    name = "ldr" if half & 0x800 else "str"
    return (name, half >> 8 & 7, SP, None, 4 * (half & 255), WITH_PLACE)


def place_in_program(half):
    return ("add_pc", half >> 8 & 7, PC, None, 4 * (half & 255), OF_THREE)


def place_on_stack(half):
    return ("add", half >> 8 & 7, SP, None, 4 * (half & 255), OF_THREE)


def stack_pointer(half):
    name = "sub" if half & 0x80 else "add"
    return (name, SP, SP, None, 4 * (half & 127), OF_TWO)


def extension(half):
    return (EXTENSIONS[half >> 6 & 3], half & 7, None, half >> 3 & 7, 0, OF_TWO)


def turned_bytes(half):
    name = TURNS[half >> 6 & 3]
    if name == "none":
        return NONE
    return (name, half & 7, None, half >> 3 & 7, 0, OF_TWO)


# The ninth bit of a list stands for LR or PC, as the instruction has it.
def listed(half, ninth):
    registers = [r for r in range(8) if half >> r & 1]
    if half & 0x100:
        registers.append(ninth)
    return tuple(registers)


def push_list(half):
    if half & 0x1FF == 0:
        return NONE
    return ("push", None, SP, None, listed(half, LR), WITH_LIST)


def pop_list(half):
    if half & 0x1FF == 0:
        return NONE
    return ("pop", None, SP, None, listed(half, PC), WITH_LIST)


def bkpt(half):
    return ("bkpt", None, None, None, half & 255, OF_ONE)


def hint(half):
    if half & 15:
        return NONE
    return ("nop", None, None, None, 0, ALONE)


ODDS = (
    stack_pointer, no_instruction, extension, no_instruction,
    push_list, push_list, no_instruction, no_instruction,
    no_instruction, no_instruction, turned_bytes, no_instruction,
    pop_list, pop_list, bkpt, hint,
)


def odds(half):
    return ODDS[half >> 8 & 15](half)


def store_list(half):
    n = half >> 8 & 7
    registers = listed(half & 255, None)
    if len(registers) == 0 or n in registers and n != registers[0]:
        return NONE
    return ("stm", None, n, None, registers, WITH_BASE_AND_LIST)


def load_list(half):
    if half & 255 == 0:
        return NONE
    return ("ldm", None, half >> 8 & 7, None, listed(half & 255, None), WITH_BASE_AND_LIST)


def branch_if(half):
    condition = half >> 8 & 15
    if condition == 14:
        return NONE
    if condition == 15:
        return ("svc", None, None, None, half & 255, OF_ONE)
    return ("b_if", condition, None, None, 2 * with_sign(half & 255, 0x80), WITH_TARGET)


def branch(half):
    return ("b", None, None, None, 2 * with_sign(half & 0x7FF, 0x400), WITH_TARGET)


def wide(first, second):
    if first == 0xF3BF and second >> 4 in (0x8F4, 0x8F5, 0x8F6):
        return ("barrier", None, None, None, 0, ALONE)
    if second & 0xD000 == 0xD000:
        return ("bl", None, None, None, 2 * distance(first, second), WITH_TARGET)
    return NONE


# J and K are turned by the sign so that old programs, with both of them 1, go as far as they always did.
def distance(first, second):
    sign = first >> 10 & 1
    high = 1 ^ sign ^ second >> 13 & 1
    low = 1 ^ sign ^ second >> 11 & 1
    number = sign << 23 | high << 22 | low << 21 | (first & 0x3FF) << 11 | second & 0x7FF
    return with_sign(number, 0x800000)


BY_HIGHEST_BITS = (
    shift_by_number, shift_by_number, shift_by_number, sum_of_three,
    with_byte, with_byte, with_byte, with_byte,
    with_registers, load_from_program, move_by_register, move_by_register,
    move_by_number, move_by_number, move_by_number, move_by_number,
    move_by_number, move_by_number, move_on_stack, move_on_stack,
    place_in_program, place_on_stack, odds, odds,
    store_list, load_list, branch_if, branch_if,
    branch, no_instruction, no_instruction, no_instruction,
)


def is_first_half(half):
    return half >> 11 == WIDE


# The first 16 bits must be all in memory: a run has its own end where they are not.
def instruction_at(memory, place):
    half = half_at(memory, place)
    if not is_first_half(half):
        return BY_HIGHEST_BITS[half >> 11](half)
    if place + 4 > SIZE:
        return NONE
    return wide(half, half_at(memory, place + 2))


def length_of(instruction):
    return 4 if instruction[0] in ("bl", "barrier") else 2
