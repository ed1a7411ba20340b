"""The calls reset, set, get and run on one machine, told and answered as a list of numbers."""

from bitmill.machine import MEMORY_SIZE, Machine
from bitmill.steps import run_steps

REFUSED = -2
MOST_STEPS = 1000000
NEXT_PLACE = 16
CONDITION = 17
MASK = 18
PART = 256


def put_value(machine, which, value):
    """The answer of set."""
    if 0 <= which <= 15:
        machine.registers[which] = value & 0xFFFFFFFF
    elif which == NEXT_PLACE:
        machine.following = value & 0xFFFFFF
    elif which == CONDITION:
        machine.condition = value & 3
    elif which == MASK:
        machine.mask = value & 15
    else:
        return [REFUSED]
    return [0]


def told_value(machine, which):
    """The answer of get."""
    if 0 <= which <= 15:
        return [0, machine.registers[which]]
    if which == NEXT_PLACE:
        return [0, machine.following]
    if which == CONDITION:
        return [0, machine.condition]
    if which == MASK:
        return [0, machine.mask]
    return [REFUSED]


def changed_bytes(before, now):
    """For each byte that is another now, its place and what it is."""
    changes = []
    for start in range(0, MEMORY_SIZE, PART):
        # Most parts of the memory stay as they were, and a part is compared faster than its bytes.
        if before[start:start + PART] != now[start:start + PART]:
            for place in range(start, start + PART):
                if before[place] != now[place]:
                    changes.append(place)
                    changes.append(now[place])
    return changes


def run_answer(machine, steps, told):
    """The answer of run, on a memory whose first bytes are told."""
    if not 0 <= steps <= MOST_STEPS:
        return [REFUSED]
    before = told + [0] * (MEMORY_SIZE - len(told))
    machine.memory = list(before)
    answer = run_steps(machine, steps)
    changes = changed_bytes(before, machine.memory)
    return answer + [len(changes)] + changes


def answers(calls):
    """What the calls answer, each answer behind how many numbers it has."""
    machine = Machine()
    replies = []
    at = 0
    while at < len(calls):
        call = calls[at]
        if call == 0:
            machine = Machine()
            answer = [0]
            at = at + 1
        elif call == 1:
            answer = put_value(machine, calls[at + 1], calls[at + 2])
            at = at + 3
        elif call == 2:
            answer = told_value(machine, calls[at + 1])
            at = at + 2
        else:
            behind = at + 3 + calls[at + 2]
            answer = run_answer(machine, calls[at + 1], calls[at + 3:behind])
            at = behind
        replies.append(len(answer))
        replies.extend(answer)
    return replies
