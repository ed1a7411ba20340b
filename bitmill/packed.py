"""Packed numbers in memory: digits in halves of bytes, the last half the sign."""

from bitmill.faults import Interruption

PLUS = (10, 12, 14, 15)


def magnitude_at(machine, place, size):
    """The number's digits, which must be digits; its sign is not looked at."""
    last = place + size - 1
    magnitude = 0
    for at in range(place, last + 1):
        byte = machine.memory[at]
        if byte >> 4 > 9 or byte & 15 > 9 and at != last:
            raise Interruption(7)
        magnitude = magnitude * 10 + (byte >> 4)
        if at != last:
            magnitude = magnitude * 10 + (byte & 15)
    return magnitude


def minus_at(machine, place, size):
    """Whether the sign, which must be one, is a minus."""
    half = machine.memory[place + size - 1] & 15
    if half < 10:
        raise Interruption(7)
    return half not in PLUS


def packed_at(machine, place, size):
    """The number, where a minus before 0 doesn't matter."""
    magnitude = magnitude_at(machine, place, size)
    return -magnitude if minus_at(machine, place, size) else magnitude


def put_packed(machine, place, size, magnitude, minus):
    """Writes as many digits as there is room for."""
    last = place + size - 1
    machine.memory[last] = magnitude % 10 << 4 | (13 if minus else 12)
    left = magnitude // 10
    for at in range(last - 1, place - 1, -1):
        machine.memory[at] = left // 10 % 10 << 4 | left % 10
        left = left // 100


def packed_limit(size):
    """The least number that has no room in so many bytes."""
    limit = 10
    for more in range(size - 1):
        limit = limit * 100
    return limit
