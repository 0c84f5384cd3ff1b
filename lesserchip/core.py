"""The calls of the program."""

from lesserchip.bits import instruction_at, is_first_half, length_of
from lesserchip.doing import do_instruction
from lesserchip.machine import AT_SVC, BEYOND_MEMORY, PC, SIZE, SP, STEPS_DONE
from lesserchip.machine import Machine, changes_of, half_at, memory_of, state_of
from lesserchip.text import half_text, instruction_text

MOST_STEPS = 16777216


def run(n, state, places, data):
    if n < 0 or n > MOST_STEPS:
        return [-1] + state
    if not can_be(state):
        return [-2] + state
    machine = Machine(state, places, data)
    done = do_steps(machine, n)
    return [done] + state_of(machine) + changes_of(machine)


def can_be(state):
    return state[SP] % 4 == 0 and state[PC] % 2 == 0 and state[16] <= 15


# R15 is set ahead to what an instruction reads in it; where that is not done, it goes back to its place.
def do_steps(machine, n):
    regs = machine.regs
    known = {}
    done = 0
    while done < n and machine.end == STEPS_DONE:
        place = regs[PC]
        if place + 2 > SIZE:
            machine.end = BEYOND_MEMORY
            return done
        instruction = instruction_now(machine.memory, place, known)
        regs[PC] = place + 4
        machine.onward = place + 2
        do_instruction(machine, instruction)
        if machine.end == STEPS_DONE or machine.end % 256 == AT_SVC:
            regs[PC] = machine.onward
            done += 1
        else:
            regs[PC] = place
    return done


# Long runs meet the same instructions again and again. Those of 16 bits are known by these alone,
# so they stay right when the program writes over itself.
def instruction_now(memory, place, known):
    half = half_at(memory, place)
    if half in known:
        return known[half]
    instruction = instruction_at(memory, place)
    if not is_first_half(half):
        known[half] = instruction
    return instruction


def show(at, places, data):
    if at % 2 != 0 or at + 2 > SIZE:
        return [-1]
    memory = memory_of(places, data)
    instruction = instruction_at(memory, at)
    if instruction[0] == "none":
        return [2] + bytes_of_text(half_text(half_at(memory, at)))
    return [length_of(instruction)] + bytes_of_text(instruction_text(instruction, at))


def bytes_of_text(text):
    return [ord(sign) for sign in text]
