"""Sums, shifts and conditions, and the flags they set and ask for."""

from lesserchip.machine import WORD, with_sign


def result_of(machine, value):
    machine.negative = value >> 31
    machine.zero = 1 if value == 0 else 0
    return value


def total_of(machine, a, b, carry):
    total = a + b + carry
    result = total & WORD
    machine.negative = result >> 31
    machine.zero = 1 if result == 0 else 0
    machine.carry = total >> 32
    machine.wrong_sign = ((a ^ result) & (b ^ result)) >> 31
    return result


# The document gives a - b as this very sum, and its C and V with it.
def difference_of(machine, a, b):
    return total_of(machine, a, b ^ WORD, 1)


# Shifts are by 0 to 255. One by 0 must leave C, so each looks for that first; beyond 32 nothing else is needed,
# as Python's numbers have as many bits as it takes, and its >> goes on with the sign for ever.
def shifted_left(machine, value, by):
    if by == 0:
        return value
    shifted = value << by
    machine.carry = shifted >> 32 & 1
    return shifted & WORD


def shifted_right(machine, value, by):
    if by == 0:
        return value
    machine.carry = value >> (by - 1) & 1
    return value >> by


def shifted_with_sign(machine, value, by):
    if by == 0:
        return value
    signed = with_sign(value, 0x80000000)
    machine.carry = signed >> (by - 1) & 1
    return signed >> by & WORD


def turned_right(machine, value, by):
    if by == 0:
        return value
    rest = by % 32
    turned = (value >> rest | value << (32 - rest)) & WORD
    machine.carry = turned >> 31
    return turned


# Conditions come in pairs: each odd one is the opposite of the even one ahead of it.
def holds(machine, condition):
    return is_met(machine, condition >> 1) != (condition % 2 == 1)


def is_met(machine, pair):
    if pair == 0:
        return machine.zero == 1
    if pair == 1:
        return machine.carry == 1
    if pair == 2:
        return machine.negative == 1
    if pair == 3:
        return machine.wrong_sign == 1
    if pair == 4:
        return machine.carry == 1 and machine.zero == 0
    if pair == 5:
        return machine.negative == machine.wrong_sign
    return machine.zero == 0 and machine.negative == machine.wrong_sign
