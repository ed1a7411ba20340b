"""How an instruction is read and done, and many of them one behind another."""

from bitmill.decimals import two_numbers
from bitmill.faults import Interruption, SupervisorCall
from bitmill.machine import PLACE_BITS, need_room, need_unit, place_told
from bitmill.pairs import two_registers
from bitmill.single import one_byte
from bitmill.spans import two_and_place
from bitmill.storage import one_and_memory
from bitmill.texts import two_texts

EXECUTE = 0x44
# How long an instruction is, in halves of a word, by the two highest bits of its operation.
HALVES_LONG = (1, 2, 2, 3)


def perform_long(machine, operation, at, second_byte):
    """Does an instruction with two places."""
    first = place_told(machine, at + 2)
    second = place_told(machine, at + 4)
    if operation < 0xF0:
        two_texts(machine, operation, second_byte + 1, first, second)
    else:
        two_numbers(machine, operation, (second_byte >> 4) + 1, (second_byte & 15) + 1, first, second)


def perform_indexed(machine, operation, k, j, place):
    if j != 0:
        place = place + machine.registers[j] & PLACE_BITS
    if operation == EXECUTE:
        execute(machine, k, place)
    else:
        one_and_memory(machine, operation, k, place)


def perform(machine, at, second_byte):
    """Does the instruction at `at`, its second byte being what is told here."""
    operation = machine.memory[at]
    k = second_byte >> 4
    j = second_byte & 15
    if operation < 0x40:
        two_registers(machine, operation, k, j)
    elif operation < 0x80:
        perform_indexed(machine, operation, k, j, place_told(machine, at + 2))
    elif operation >= 0xC0:
        perform_long(machine, operation, at, second_byte)
    elif 0x91 <= operation <= 0x97:
        one_byte(machine, operation, second_byte, place_told(machine, at + 2))
    else:
        two_and_place(machine, operation, k, j, place_told(machine, at + 2))


def execute(machine, k, place):
    need_unit(place, 2)
    operation = machine.memory[place]
    if operation == EXECUTE:
        raise Interruption(3)
    need_room(place, 2 * HALVES_LONG[operation >> 6])
    second_byte = machine.memory[place + 1]
    if k != 0:
        second_byte = second_byte | machine.registers[k] & 255
    perform(machine, place, second_byte)


def step(machine):
    """Does the next instruction; one that can't be read leaves its place and has no length."""
    at = machine.following
    machine.halves = 0
    need_unit(at, 2)
    halves = HALVES_LONG[machine.memory[at] >> 6]
    need_room(at, 2 * halves)
    machine.halves = halves
    machine.following = at + 2 * halves
    perform(machine, at, machine.memory[at + 1])


def run_steps(machine, steps):
    """How many steps were done, how that ended, by what number, the last place and its length."""
    done = 0
    ending = 0
    number = 0
    place = 0
    machine.halves = 0
    while done < steps and ending == 0:
        done = done + 1
        place = machine.following
        try:
            step(machine)
        except Interruption as e:
            ending = 1
            number = e.number
        except SupervisorCall as e:
            ending = 2
            number = e.number
    return [done, ending, number, place, machine.halves]
