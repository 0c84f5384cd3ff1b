"""What a run works on: sixteen registers, four flags, the memory, and why the run ended."""

SIZE = 65536
WORD = 0xFFFFFFFF

SP = 13
LR = 14
PC = 15

STEPS_DONE = 0
NO_INSTRUCTION = 1
NO_PLACE = 2
AT_BKPT = 3
AT_SVC = 4
BEYOND_MEMORY = 5


# A processor with its memory, made anew for each run. onward is where the program goes on behind the instruction
# that is being done: R15 itself holds, for that while, what an instruction reads in it.
class Machine:
    def __init__(self, state, places, data):
        self.regs = state[:16]
        self.negative = state[16] >> 3 & 1
        self.zero = state[16] >> 2 & 1
        self.carry = state[16] >> 1 & 1
        self.wrong_sign = state[16] & 1
        self.end = STEPS_DONE
        self.onward = self.regs[PC]
        self.memory = memory_of(places, data)
        self.bytes_before = {}


def memory_of(places, data):
    memory = [0] * SIZE
    for place, byte in zip(places, data):
        memory[place] = byte
    return memory


def state_of(machine):
    flags = 8 * machine.negative + 4 * machine.zero + 2 * machine.carry + machine.wrong_sign
    return machine.regs + [flags, machine.end]


# A byte may have been written and still, or again, be what it was: such a one is not told.
def changes_of(machine):
    changes = []
    for place in sorted(machine.bytes_before):
        byte = machine.memory[place]
        if byte != machine.bytes_before[place]:
            changes.append(place)
            changes.append(byte)
    return changes


# SP and R15 can't hold every number. R15 itself is written at the end of the step.
def set_register(machine, d, value):
    if d == PC:
        machine.onward = value & 0xFFFFFFFE
    elif d == SP:
        machine.regs[SP] = value & 0xFFFFFFFC
    else:
        machine.regs[d] = value & WORD


def is_none(place, size):
    return place % size != 0 or place + size > SIZE


def half_at(memory, place):
    return memory[place] | memory[place + 1] << 8


def word_at(memory, place):
    return half_at(memory, place) | half_at(memory, place + 2) << 16


# What a byte was before its first change is kept, so that the run can tell what changed.
def put_bytes(machine, place, size, value):
    for at in range(place, place + size):
        machine.bytes_before.setdefault(at, machine.memory[at])
        machine.memory[at] = value & 255
        value = value >> 8


def with_sign(value, sign_bit):
    return (value ^ sign_bit) - sign_bit
