"""Instructions of two bytes: k and j are two registers."""

from bitmill.arithmetic import with_number
from bitmill.faults import Interruption, SupervisorCall
from bitmill.jumps import jump
from bitmill.machine import PLACE_BITS


def set_condition_and_mask(machine, word):
    machine.condition = word >> 28 & 3
    machine.mask = word >> 24 & 15


def two_registers(machine, operation, k, j):
    x = machine.registers[j]
    if operation >= 0x10:
        with_number(machine, operation, k, x)
    elif 0x05 <= operation <= 0x07:
        jump(machine, operation, k, j != 0, x & PLACE_BITS)
    elif operation == 0x04:
        set_condition_and_mask(machine, machine.registers[k])
    elif operation == 0x0A:
        raise SupervisorCall(k << 4 | j)
    else:
        raise Interruption(1)
