"""Instructions of one byte that they hold and the byte at a place."""

from bitmill.faults import Interruption
from bitmill.machine import need_room, order


def examine_bits(machine, given, place):
    common = machine.memory[place] & given
    if common == 0:
        machine.condition = 0
    else:
        machine.condition = 3 if common == given else 1


def move(machine, given, place):
    machine.memory[place] = given


def settle_byte(machine, place, result):
    machine.memory[place] = result
    machine.condition = 0 if result == 0 else 1


def byte_and(machine, given, place):
    settle_byte(machine, place, machine.memory[place] & given)


def compare(machine, given, place):
    machine.condition = order(machine.memory[place], given)


def byte_or(machine, given, place):
    settle_byte(machine, place, machine.memory[place] | given)


def byte_exclusive(machine, given, place):
    settle_byte(machine, place, machine.memory[place] ^ given)


OPERATIONS = {
    0x91: examine_bits,
    0x92: move,
    0x94: byte_and,
    0x95: compare,
    0x96: byte_or,
    0x97: byte_exclusive,
}


def one_byte(machine, operation, given, place):
    action = OPERATIONS.get(operation)
    if action is None:
        raise Interruption(1)
    need_room(place, 1)
    action(machine, given, place)
