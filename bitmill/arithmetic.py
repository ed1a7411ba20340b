"""Operations 10 to 1F on k and a number x of 32 bits, wherever x came from."""

from bitmill.faults import Interruption
from bitmill.machine import WORD_BITS, conclude, need_even, order, pair_at, put_pair, signed, signed_double


def fits_word(number):
    return -0x80000000 <= number <= 0x7FFFFFFF


def settle(machine, k, result):
    """Puts a result into k that may be too great."""
    machine.registers[k] = result & WORD_BITS
    conclude(machine, result, fits_word(result))


def make_positive(machine, k, x):
    settle(machine, k, abs(signed(x)))


def make_negative(machine, k, x):
    settle(machine, k, -abs(signed(x)))


def load_and_test(machine, k, x):
    settle(machine, k, signed(x))


def negate(machine, k, x):
    settle(machine, k, -signed(x))


def settle_bits(machine, k, result):
    machine.registers[k] = result
    machine.condition = 0 if result == 0 else 1


def bits_and(machine, k, x):
    settle_bits(machine, k, machine.registers[k] & x)


def bits_or(machine, k, x):
    settle_bits(machine, k, machine.registers[k] | x)


def bits_exclusive(machine, k, x):
    settle_bits(machine, k, machine.registers[k] ^ x)


def compare_unsigned(machine, k, x):
    machine.condition = order(machine.registers[k], x)


def compare_signed(machine, k, x):
    machine.condition = order(signed(machine.registers[k]), signed(x))


def load(machine, k, x):
    machine.registers[k] = x


def add(machine, k, x):
    settle(machine, k, signed(machine.registers[k]) + signed(x))


def subtract(machine, k, x):
    settle(machine, k, signed(machine.registers[k]) - signed(x))


def multiply(machine, k, x):
    need_even(k)
    put_pair(machine, k, signed(machine.registers[k + 1]) * signed(x))


def divide(machine, k, x):
    dividend = signed_double(pair_at(machine, k))
    divisor = signed(x)
    if divisor == 0:
        raise Interruption(9)
    quotient = abs(dividend) // abs(divisor)
    if (dividend < 0) != (divisor < 0):
        quotient = -quotient
    if not fits_word(quotient):
        raise Interruption(9)
    machine.registers[k] = dividend - quotient * divisor & WORD_BITS
    machine.registers[k + 1] = quotient & WORD_BITS


def settle_unsigned(machine, k, result, carry):
    machine.registers[k] = result & WORD_BITS
    machine.condition = (0 if machine.registers[k] == 0 else 1) + (2 if carry else 0)


def add_unsigned(machine, k, x):
    result = machine.registers[k] + x
    settle_unsigned(machine, k, result, result > WORD_BITS)


def subtract_unsigned(machine, k, x):
    result = machine.registers[k] - x
    settle_unsigned(machine, k, result, result >= 0)


OPERATIONS = {
    0x10: make_positive,
    0x11: make_negative,
    0x12: load_and_test,
    0x13: negate,
    0x14: bits_and,
    0x15: compare_unsigned,
    0x16: bits_or,
    0x17: bits_exclusive,
    0x18: load,
    0x19: compare_signed,
    0x1A: add,
    0x1B: subtract,
    0x1C: multiply,
    0x1D: divide,
    0x1E: add_unsigned,
    0x1F: subtract_unsigned,
}


def with_number(machine, operation, k, x):
    action = OPERATIONS.get(operation)
    if action is None:
        raise Interruption(1)
    action(machine, k, x)
