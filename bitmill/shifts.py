"""Shifts 88 to 8F of k, or of the pair that begins with k, by a count from 0 to 63."""

from bitmill.machine import WORD_BITS, conclude, order, pair_at, put_pair, signed, signed_double


def right(machine, k, count):
    machine.registers[k] = machine.registers[k] >> count


def left(machine, k, count):
    machine.registers[k] = machine.registers[k] << count & WORD_BITS


def right_signed(machine, k, count):
    result = signed(machine.registers[k]) >> count
    machine.registers[k] = result & WORD_BITS
    machine.condition = order(result, 0)


def left_signed(machine, k, count):
    word = machine.registers[k]
    exact = signed(word) << count
    kept = word & 0x80000000 | exact & 0x7FFFFFFF
    machine.registers[k] = kept
    conclude(machine, exact, signed(kept) == exact)


def pair_right(machine, k, count):
    put_pair(machine, k, pair_at(machine, k) >> count)


def pair_left(machine, k, count):
    put_pair(machine, k, pair_at(machine, k) << count)


def pair_right_signed(machine, k, count):
    result = signed_double(pair_at(machine, k)) >> count
    put_pair(machine, k, result)
    machine.condition = order(result, 0)


def pair_left_signed(machine, k, count):
    double = pair_at(machine, k)
    exact = signed_double(double) << count
    kept = double & 0x8000000000000000 | exact & 0x7FFFFFFFFFFFFFFF
    put_pair(machine, k, kept)
    conclude(machine, exact, signed_double(kept) == exact)


SHIFTS = {
    0x88: right,
    0x89: left,
    0x8A: right_signed,
    0x8B: left_signed,
    0x8C: pair_right,
    0x8D: pair_left,
    0x8E: pair_right_signed,
    0x8F: pair_left_signed,
}


def shift(machine, operation, k, place):
    SHIFTS[operation](machine, k, place & 63)
