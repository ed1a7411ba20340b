"""Instructions of two texts of one length: moved, joined bit by bit, compared, translated."""

from bitmill.editing import edit, edit_and_mark
from bitmill.faults import Interruption
from bitmill.machine import need_room, order


def lower_half_moved(byte, other):
    return byte & 0xF0 | other & 0x0F


def higher_half_moved(byte, other):
    return byte & 0x0F | other & 0xF0


def bits_and(byte, other):
    return byte & other


def bits_or(byte, other):
    return byte | other


def bits_exclusive(byte, other):
    return byte ^ other


JOINS = {
    0xD1: lower_half_moved,
    0xD3: higher_half_moved,
    0xD4: bits_and,
    0xD6: bits_or,
    0xD7: bits_exclusive,
}


def move(machine, size, first, second):
    need_room(first, size)
    need_room(second, size)
    memory = machine.memory
    for index in range(size):
        memory[first + index] = memory[second + index]


def join_texts(machine, operation, size, first, second):
    """Each byte of the first text becomes what it and the second's give, when its turn is."""
    need_room(first, size)
    need_room(second, size)
    memory = machine.memory
    joined = JOINS[operation]
    bits = 0
    for index in range(size):
        byte = joined(memory[first + index], memory[second + index])
        memory[first + index] = byte
        bits = bits | byte
    if operation >= 0xD4:
        machine.condition = 0 if bits == 0 else 1


def compare(machine, size, first, second):
    need_room(first, size)
    need_room(second, size)
    memory = machine.memory
    machine.condition = order(memory[first:first + size], memory[second:second + size])


def translate(machine, size, first, table):
    need_room(first, size)
    need_room(table, 256)
    memory = machine.memory
    for place in range(first, first + size):
        memory[place] = memory[table + memory[place]]


def search(machine, size, first, table):
    """Finds the first byte for which the table's byte isn't 0."""
    need_room(first, size)
    need_room(table, 256)
    machine.condition = 0
    for place in range(first, first + size):
        found = machine.memory[table + machine.memory[place]]
        if found != 0:
            machine.registers[1] = machine.registers[1] & 0xFF000000 | place
            machine.registers[2] = machine.registers[2] & 0xFFFFFF00 | found
            machine.condition = 2 if place == first + size - 1 else 1
            return


def two_texts(machine, operation, size, first, second):
    if operation in JOINS:
        join_texts(machine, operation, size, first, second)
    elif operation == 0xD2:
        move(machine, size, first, second)
    elif operation == 0xD5:
        compare(machine, size, first, second)
    elif operation == 0xDC:
        translate(machine, size, first, second)
    elif operation == 0xDD:
        search(machine, size, first, second)
    elif operation == 0xDE:
        edit(machine, size, first, second)
    elif operation == 0xDF:
        edit_and_mark(machine, size, first, second)
    else:
        raise Interruption(1)
