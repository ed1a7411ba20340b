"""Instructions of one of the registers and the memory at a place, but for execute."""

from bitmill.arithmetic import fits_word, with_number
from bitmill.faults import Interruption
from bitmill.jumps import jump
from bitmill.machine import (
    WORD_BITS,
    half_at,
    need_even,
    need_room,
    need_unit,
    put_half,
    put_word,
    signed,
    word_at,
)
from bitmill.packed import packed_at, put_packed


def store_half(machine, k, place):
    put_half(machine, place, machine.registers[k])


def load_place(machine, k, place):
    machine.registers[k] = place


def store_byte(machine, k, place):
    need_room(place, 1)
    machine.memory[place] = machine.registers[k] & 255


def load_byte(machine, k, place):
    need_room(place, 1)
    machine.registers[k] = machine.registers[k] & 0xFFFFFF00 | machine.memory[place]


def multiply_half(machine, k, place):
    product = signed(machine.registers[k]) * signed(half_at(machine, place))
    machine.registers[k] = product & WORD_BITS


def store_packed(machine, k, place):
    need_unit(place, 8)
    number = signed(machine.registers[k])
    put_packed(machine, place, 8, abs(number), number < 0)


def load_packed(machine, k, place):
    need_unit(place, 8)
    number = packed_at(machine, place, 8)
    machine.registers[k] = number & WORD_BITS
    if not fits_word(number):
        raise Interruption(9)


def store_word(machine, k, place):
    put_word(machine, place, machine.registers[k])


OPERATIONS = {
    0x40: store_half,
    0x41: load_place,
    0x42: store_byte,
    0x43: load_byte,
    0x4C: multiply_half,
    0x4E: store_packed,
    0x4F: load_packed,
    0x50: store_word,
}


def with_word(machine, operation, k, place):
    """54 to 5F: as 14 to 1F with the word there."""
    # An odd k is told ahead of a word outside, so it's asked before the word is read.
    if operation == 0x5C or operation == 0x5D:
        need_even(k)
    with_number(machine, operation - 0x40, k, word_at(machine, place))


def one_and_memory(machine, operation, k, place):
    if 0x54 <= operation <= 0x5F:
        with_word(machine, operation, k, place)
    elif 0x48 <= operation <= 0x4B:
        with_number(machine, operation - 0x30, k, half_at(machine, place))
    elif 0x45 <= operation <= 0x47:
        jump(machine, operation - 0x40, k, True, place)
    else:
        action = OPERATIONS.get(operation)
        if action is None:
            raise Interruption(1)
        action(machine, k, place)
