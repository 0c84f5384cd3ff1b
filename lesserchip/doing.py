"""What each instruction does.

A def that does one is given the machine, d and n as bits.py tells them, and the second operand's value (x),
be it a register's or a number. It sets machine.end, ahead of any other change, if the run ends with it.
"""

from lesserchip.arithmetic import difference_of, holds, result_of, total_of
from lesserchip.arithmetic import shifted_left, shifted_right, shifted_with_sign, turned_right
from lesserchip.machine import AT_BKPT, AT_SVC, NO_INSTRUCTION, NO_PLACE
from lesserchip.machine import LR, PC, SIZE, SP, WORD
from lesserchip.machine import half_at, is_none, put_bytes, set_register, with_sign, word_at


def do_movs(machine, d, n, x):
    machine.regs[d] = result_of(machine, x)


def do_mvns(machine, d, n, x):
    machine.regs[d] = result_of(machine, x ^ WORD)


def do_ands(machine, d, n, x):
    machine.regs[d] = result_of(machine, machine.regs[n] & x)


def do_tst(machine, d, n, x):
    result_of(machine, machine.regs[n] & x)


def do_bics(machine, d, n, x):
    machine.regs[d] = result_of(machine, machine.regs[n] & (x ^ WORD))


def do_orrs(machine, d, n, x):
    machine.regs[d] = result_of(machine, machine.regs[n] | x)


def do_eors(machine, d, n, x):
    machine.regs[d] = result_of(machine, machine.regs[n] ^ x)


def do_muls(machine, d, n, x):
    machine.regs[d] = result_of(machine, machine.regs[n] * x & WORD)


def do_lsls(machine, d, n, x):
    machine.regs[d] = result_of(machine, shifted_left(machine, machine.regs[n], x & 255))


def do_lsrs(machine, d, n, x):
    machine.regs[d] = result_of(machine, shifted_right(machine, machine.regs[n], x & 255))


def do_asrs(machine, d, n, x):
    machine.regs[d] = result_of(machine, shifted_with_sign(machine, machine.regs[n], x & 255))


def do_rors(machine, d, n, x):
    machine.regs[d] = result_of(machine, turned_right(machine, machine.regs[n], x & 255))


def do_adds(machine, d, n, x):
    machine.regs[d] = total_of(machine, machine.regs[n], x, 0)


def do_adcs(machine, d, n, x):
    machine.regs[d] = total_of(machine, machine.regs[n], x, machine.carry)


def do_cmn(machine, d, n, x):
    total_of(machine, machine.regs[n], x, 0)


def do_subs(machine, d, n, x):
    machine.regs[d] = difference_of(machine, machine.regs[n], x)


def do_sbcs(machine, d, n, x):
    machine.regs[d] = total_of(machine, machine.regs[n], x ^ WORD, machine.carry)


def do_rsbs(machine, d, n, x):
    machine.regs[d] = difference_of(machine, 0, x)


def do_cmp(machine, d, n, x):
    difference_of(machine, machine.regs[n], x)


def do_add(machine, d, n, x):
    set_register(machine, d, machine.regs[n] + x)


def do_sub(machine, d, n, x):
    set_register(machine, d, machine.regs[n] - x)


def do_add_pc(machine, d, n, x):
    machine.regs[d] = place_by_program(machine, x)


def do_mov(machine, d, n, x):
    set_register(machine, d, x)


def do_sxth(machine, d, n, x):
    machine.regs[d] = with_sign(x & 0xFFFF, 0x8000) & WORD


def do_sxtb(machine, d, n, x):
    machine.regs[d] = with_sign(x & 255, 0x80) & WORD


def do_uxth(machine, d, n, x):
    machine.regs[d] = x & 0xFFFF


def do_uxtb(machine, d, n, x):
    machine.regs[d] = x & 255


def bytes_turned_in_halves(value):
    return (value & 0xFF00FF) << 8 | value >> 8 & 0xFF00FF


def do_rev(machine, d, n, x):
    turned = bytes_turned_in_halves(x)
    machine.regs[d] = (turned & 0xFFFF) << 16 | turned >> 16


def do_rev16(machine, d, n, x):
    machine.regs[d] = bytes_turned_in_halves(x)


def do_revsh(machine, d, n, x):
    machine.regs[d] = with_sign(bytes_turned_in_halves(x & 0xFFFF), 0x8000) & WORD


def place_by_program(machine, x):
    return (machine.regs[PC] & 0xFFFFFFFC) + x


def store(machine, d, place, size):
    if is_none(place, size):
        machine.end = NO_PLACE
    else:
        put_bytes(machine, place, size, machine.regs[d])


def do_str(machine, d, n, x):
    store(machine, d, machine.regs[n] + x & WORD, 4)


def do_strh(machine, d, n, x):
    store(machine, d, machine.regs[n] + x & WORD, 2)


def do_strb(machine, d, n, x):
    store(machine, d, machine.regs[n] + x & WORD, 1)


def load_word(machine, d, place):
    if is_none(place, 4):
        machine.end = NO_PLACE
    else:
        machine.regs[d] = word_at(machine.memory, place)


# For loads without a sign, sign_bit is 0.
def load_half(machine, d, place, sign_bit):
    if is_none(place, 2):
        machine.end = NO_PLACE
    else:
        machine.regs[d] = with_sign(half_at(machine.memory, place), sign_bit) & WORD


def load_byte(machine, d, place, sign_bit):
    if is_none(place, 1):
        machine.end = NO_PLACE
    else:
        machine.regs[d] = with_sign(machine.memory[place], sign_bit) & WORD


def do_ldr(machine, d, n, x):
    load_word(machine, d, machine.regs[n] + x & WORD)


def do_ldr_pc(machine, d, n, x):
    load_word(machine, d, place_by_program(machine, x))


def do_ldrh(machine, d, n, x):
    load_half(machine, d, machine.regs[n] + x & WORD, 0)


def do_ldrsh(machine, d, n, x):
    load_half(machine, d, machine.regs[n] + x & WORD, 0x8000)


def do_ldrb(machine, d, n, x):
    load_byte(machine, d, machine.regs[n] + x & WORD, 0)


def do_ldrsb(machine, d, n, x):
    load_byte(machine, d, machine.regs[n] + x & WORD, 0x80)


def is_none_for_list(place, registers):
    return place % 4 != 0 or place + 4 * len(registers) > SIZE


def put_list(machine, place, registers):
    for r in registers:
        put_bytes(machine, place, 4, machine.regs[r])
        place = place + 4


def take_list(machine, place, registers):
    # A popped R15 may be written here too: at the step's end machine.onward goes over it.
    for r in registers:
        machine.regs[r] = word_at(machine.memory, place)
        place = place + 4


def do_push(machine, d, n, registers):
    place = machine.regs[SP] - 4 * len(registers) & WORD
    if is_none_for_list(place, registers):
        machine.end = NO_PLACE
        return
    put_list(machine, place, registers)
    machine.regs[SP] = place


def do_pop(machine, d, n, registers):
    place = machine.regs[SP]
    behind = place + 4 * len(registers)
    if is_none_for_list(place, registers):
        machine.end = NO_PLACE
        return
    if registers[-1] == PC:
        go_to_marked(machine, word_at(machine.memory, behind - 4))
    if machine.end == NO_PLACE:
        return
    take_list(machine, place, registers)
    machine.regs[SP] = behind


def do_stm(machine, d, n, registers):
    place = machine.regs[n]
    if is_none_for_list(place, registers):
        machine.end = NO_PLACE
        return
    put_list(machine, place, registers)
    machine.regs[n] = place + 4 * len(registers)


def do_ldm(machine, d, n, registers):
    place = machine.regs[n]
    if is_none_for_list(place, registers):
        machine.end = NO_PLACE
        return
    take_list(machine, place, registers)
    if n not in registers:
        machine.regs[n] = place + 4 * len(registers)


# The lowest bit is a mark, not a part of the place: without it there is no such place to go to.
def go_to_marked(machine, target):
    if target & 1:
        machine.onward = target - 1
    else:
        machine.end = NO_PLACE


def do_bx(machine, d, n, x):
    go_to_marked(machine, x)


def do_blx(machine, d, n, x):
    link = machine.onward + 1
    go_to_marked(machine, x)
    if machine.end != NO_PLACE:
        machine.regs[LR] = link


def do_b(machine, d, n, x):
    machine.onward = machine.regs[PC] + x & WORD


def do_b_if(machine, condition, n, x):
    if holds(machine, condition):
        machine.onward = machine.regs[PC] + x & WORD


def do_bl(machine, d, n, x):
    # The place behind 32 bits is just what R15 reads as.
    machine.regs[LR] = machine.regs[PC] + 1
    machine.onward = machine.regs[PC] + x & WORD


def do_barrier(machine, d, n, x):
    machine.onward = machine.regs[PC]


def do_nop(machine, d, n, x):
    pass


def do_bkpt(machine, d, n, x):
    machine.end = AT_BKPT + 256 * x


def do_svc(machine, d, n, x):
    machine.end = AT_SVC + 256 * x


def do_none(machine, d, n, x):
    machine.end = NO_INSTRUCTION


DOERS = {
    "movs": do_movs, "mvns": do_mvns, "ands": do_ands, "tst": do_tst, "bics": do_bics, "orrs": do_orrs,
    "eors": do_eors, "muls": do_muls, "lsls": do_lsls, "lsrs": do_lsrs, "asrs": do_asrs, "rors": do_rors,
    "adds": do_adds, "adcs": do_adcs, "cmn": do_cmn, "subs": do_subs, "sbcs": do_sbcs, "rsbs": do_rsbs,
    "cmp": do_cmp, "add": do_add, "sub": do_sub, "add_pc": do_add_pc, "mov": do_mov,
    "sxth": do_sxth, "sxtb": do_sxtb, "uxth": do_uxth, "uxtb": do_uxtb,
    "rev": do_rev, "rev16": do_rev16, "revsh": do_revsh,
    "str": do_str, "strh": do_strh, "strb": do_strb, "ldr": do_ldr, "ldr_pc": do_ldr_pc,
    "ldrh": do_ldrh, "ldrsh": do_ldrsh, "ldrb": do_ldrb, "ldrsb": do_ldrsb,
    "push": do_push, "pop": do_pop, "stm": do_stm, "ldm": do_ldm,
    "bx": do_bx, "blx": do_blx, "b": do_b, "b_if": do_b_if, "bl": do_bl, "barrier": do_barrier,
    "nop": do_nop, "bkpt": do_bkpt, "svc": do_svc, "none": do_none,
}


def do_instruction(machine, instruction):
    m = instruction[3]
    second = instruction[4] if m is None else machine.regs[m]
    DOERS[instruction[0]](machine, instruction[1], instruction[2], second)
