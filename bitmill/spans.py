"""Instructions of two registers and a place: jumps by a step, shifts, many registers at once."""

from bitmill.faults import Interruption
from bitmill.machine import WORD_BITS, need_room, need_unit, put_word, signed, word_at
from bitmill.shifts import shift


def step_is_above(machine, k, j):
    """Adds j to k; whether the sum is above what stood in j, or in the one behind an even j."""
    limit = signed(machine.registers[j | 1])
    machine.registers[k] = machine.registers[k] + machine.registers[j] & WORD_BITS
    return signed(machine.registers[k]) > limit


def jump_above(machine, k, j, place):
    if step_is_above(machine, k, j):
        machine.following = place


def jump_not_above(machine, k, j, place):
    if not step_is_above(machine, k, j):
        machine.following = place


def registers_from(k, j):
    """The numbers of the registers from k to j, round after 15."""
    return [(k + more) % 16 for more in range((j - k) % 16 + 1)]


def store_many(machine, k, j, place):
    numbers = registers_from(k, j)
    need_unit(place, 4)
    need_room(place, 4 * len(numbers))
    for index, number in enumerate(numbers):
        put_word(machine, place + 4 * index, machine.registers[number])


def load_many(machine, k, j, place):
    numbers = registers_from(k, j)
    need_unit(place, 4)
    need_room(place, 4 * len(numbers))
    for index, number in enumerate(numbers):
        machine.registers[number] = word_at(machine, place + 4 * index)


OPERATIONS = {0x86: jump_above, 0x87: jump_not_above, 0x90: store_many, 0x98: load_many}


def two_and_place(machine, operation, k, j, place):
    if 0x88 <= operation <= 0x8F:
        shift(machine, operation, k, place)
        return
    action = OPERATIONS.get(operation)
    if action is None:
        raise Interruption(1)
    action(machine, k, j, place)
