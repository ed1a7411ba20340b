"""Instructions of two packed numbers, and those that pack, unpack and move halves of bytes."""

from bitmill.faults import Interruption
from bitmill.packing import move_before_last, pack, unpack
from bitmill.machine import need_room, order
from bitmill.packed import magnitude_at, minus_at, packed_at, packed_limit, put_packed


def settle_packed(machine, place, size, result):
    """Writes a sum; its sign is that of the whole one, though digits may be left out."""
    put_packed(machine, place, size, abs(result), result < 0)
    if abs(result) < packed_limit(size):
        machine.condition = order(result, 0)
        return
    machine.condition = 3
    if machine.mask & 4:
        raise Interruption(10)


def put_second(machine, first, size, second, other):
    settle_packed(machine, first, size, packed_at(machine, second, other))


def compare(machine, first, size, second, other):
    machine.condition = order(packed_at(machine, first, size), packed_at(machine, second, other))


def add(machine, first, size, second, other):
    result = packed_at(machine, first, size) + packed_at(machine, second, other)
    settle_packed(machine, first, size, result)


def subtract(machine, first, size, second, other):
    result = packed_at(machine, first, size) - packed_at(machine, second, other)
    settle_packed(machine, first, size, result)


def need_zeros(machine, place, size):
    for at in range(place, place + size):
        if machine.memory[at] != 0:
            raise Interruption(7)


def multiply(machine, first, size, second, other):
    product = magnitude_at(machine, first, size) * magnitude_at(machine, second, other)
    minus = minus_at(machine, first, size) != minus_at(machine, second, other)
    need_zeros(machine, first, other)
    put_packed(machine, first, size, product, minus)


def divide(machine, first, size, second, other):
    dividend = magnitude_at(machine, first, size)
    divisor = magnitude_at(machine, second, other)
    rest_minus = minus_at(machine, first, size)
    minus = rest_minus != minus_at(machine, second, other)
    room = size - other
    if divisor == 0 or dividend // divisor >= packed_limit(room):
        raise Interruption(11)
    put_packed(machine, first, room, dividend // divisor, minus)
    put_packed(machine, first + room, other, dividend % divisor, rest_minus)


OPERATIONS = {
    0xF8: put_second,
    0xF9: compare,
    0xFA: add,
    0xFB: subtract,
    0xFC: multiply,
    0xFD: divide,
}


def two_numbers(machine, operation, size, other, first, second):
    """Does an operation on `size` bytes at the first place and `other` bytes at the second."""
    if not (0xF1 <= operation <= 0xF3 or operation in OPERATIONS):
        raise Interruption(1)
    if operation >= 0xFC and (other > 8 or other >= size):
        raise Interruption(6)
    need_room(first, size)
    need_room(second, other)
    if operation == 0xF1:
        move_before_last(machine, first, size, second, other)
    elif operation == 0xF2:
        pack(machine, first, size, second, other)
    elif operation == 0xF3:
        unpack(machine, first, size, second, other)
    else:
        OPERATIONS[operation](machine, first, size, second, other)
