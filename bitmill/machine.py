"""The machine: what it keeps, how its memory is reached, how a result is concluded."""

from bitmill.faults import Interruption

MEMORY_SIZE = 65536
PLACE_BITS = 0xFFFFFF
WORD_BITS = 0xFFFFFFFF


class Machine:
    """Registers, next place, condition and mask stay from run to run; the memory is one run's."""

    def __init__(self):
        self.registers = [0] * 16
        self.following = 0
        self.condition = 0
        self.mask = 0
        self.memory = []
        # How long the instruction is that a step has read, in halves of a word: a link holds it.
        self.halves = 0


def signed(word):
    """A word's 32 bits as a number with a sign."""
    return (word ^ 0x80000000) - 0x80000000


def signed_double(double):
    """64 bits as a number with a sign."""
    return (double ^ 0x8000000000000000) - 0x8000000000000000


def order(first, second):
    """The condition of a comparison; against 0, that of a result."""
    if first == second:
        return 0
    return 1 if first < second else 2


def conclude(machine, result, fits):
    """Sets the condition of a result that stands in its place already, perhaps too great for it."""
    if fits:
        machine.condition = order(result, 0)
        return
    machine.condition = 3
    if machine.mask & 8:
        raise Interruption(8)


def need_even(number):
    if number & 1:
        raise Interruption(6)


def need_room(place, size):
    if place + size > MEMORY_SIZE:
        raise Interruption(5)


def need_unit(place, size):
    """What is so long must stand at a multiple of that, within memory."""
    if place % size != 0:
        raise Interruption(6)
    if place >= MEMORY_SIZE:
        raise Interruption(5)


def half_at(machine, place):
    """The half of a word there, its sign spread over 32 bits."""
    need_unit(place, 2)
    half = machine.memory[place] << 8 | machine.memory[place + 1]
    return half | 0xFFFF0000 if half & 0x8000 else half


def put_half(machine, place, word):
    need_unit(place, 2)
    machine.memory[place] = word >> 8 & 255
    machine.memory[place + 1] = word & 255


def word_at(machine, place):
    need_unit(place, 4)
    memory = machine.memory
    return memory[place] << 24 | memory[place + 1] << 16 | memory[place + 2] << 8 | memory[place + 3]


def put_word(machine, place, word):
    need_unit(place, 4)
    memory = machine.memory
    memory[place] = word >> 24
    memory[place + 1] = word >> 16 & 255
    memory[place + 2] = word >> 8 & 255
    memory[place + 3] = word & 255


def pair_at(machine, k):
    """The 64 bits of the pair that begins with k, which must be even."""
    need_even(k)
    return machine.registers[k] << 32 | machine.registers[k + 1]


def put_pair(machine, k, double):
    """Puts the lowest 64 bits of a number into the pair that begins with k."""
    machine.registers[k] = double >> 32 & WORD_BITS
    machine.registers[k + 1] = double & WORD_BITS


def place_told(machine, at):
    """The place that the two bytes at `at` tell: four bits for what is added, and twelve."""
    high = machine.memory[at]
    place = (high & 15) << 8 | machine.memory[at + 1]
    base = high >> 4
    if base != 0:
        place = place + machine.registers[base]
    return place & PLACE_BITS
