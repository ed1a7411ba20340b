"""Editing: a pattern is filled with the digits of packed numbers."""

from bitmill.faults import Interruption
from bitmill.machine import need_room
from bitmill.packed import PLUS

DIGIT = 0x20
DIGIT_AND_ON = 0x21
FIELD_END = 0x22


class Editing:
    """How far an edit has come."""

    def __init__(self, memory, source, filling):
        self.memory = memory
        self.source = source
        self.filling = filling
        # The lower half that is still to be taken; below 0 where a new byte must come.
        self.waiting = -1
        self.behind_plus = False
        self.on = False
        self.only_zeros = True
        # Where a digit turned it on; below 0 where none did.
        self.marked = -1


def take_digit(editing):
    """The next digit; also tells the editing whether a plus stands behind it."""
    editing.behind_plus = False
    if editing.waiting >= 0:
        digit = editing.waiting
        editing.waiting = -1
        return digit
    need_room(editing.source, 1)
    byte = editing.memory[editing.source]
    editing.source = editing.source + 1
    if byte >> 4 > 9:
        raise Interruption(7)
    if byte & 15 < 10:
        editing.waiting = byte & 15
    else:
        editing.behind_plus = byte & 15 in PLUS
    return byte >> 4


def edited_digit(editing, pattern, place):
    """What a digit's byte of the pattern becomes."""
    digit = take_digit(editing)
    shown = editing.on or digit != 0
    if digit != 0:
        editing.only_zeros = False
        if not editing.on:
            editing.marked = place
    editing.on = (shown or pattern == DIGIT_AND_ON) and not editing.behind_plus
    return 0xF0 | digit if shown else editing.filling


def edited_byte(editing, pattern, place, is_first):
    """What a byte of the pattern becomes."""
    if pattern == DIGIT or pattern == DIGIT_AND_ON:
        return edited_digit(editing, pattern, place)
    if pattern == FIELD_END:
        editing.on = False
        editing.only_zeros = True
        return editing.filling
    return pattern if editing.on or is_first else editing.filling


def edit_text(machine, size, first, second):
    """Edits, and gives back the editing as it ended."""
    need_room(first, size)
    editing = Editing(machine.memory, second, machine.memory[first])
    result = []
    for place in range(first, first + size):
        result.append(edited_byte(editing, machine.memory[place], place, place == first))
    # Written at the end alone: the digits are those from before, and an interruption leaves all.
    for index, byte in enumerate(result):
        machine.memory[first + index] = byte
    if editing.only_zeros:
        machine.condition = 0
    else:
        machine.condition = 1 if editing.on else 2
    return editing


def edit(machine, size, first, second):
    edit_text(machine, size, first, second)


def edit_and_mark(machine, size, first, second):
    editing = edit_text(machine, size, first, second)
    if editing.marked >= 0:
        machine.registers[1] = machine.registers[1] & 0xFF000000 | editing.marked
