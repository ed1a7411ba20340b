"""Operations 05 to 07, and 45 to 47, which are the same to a place."""


def link(machine):
    """What is needed to come back: the length, the condition, the mask, the next place."""
    return machine.halves << 30 | machine.condition << 28 | machine.mask << 24 | machine.following


def jump_with_link(machine, k, wanted, place):
    machine.registers[k] = link(machine)
    if wanted:
        machine.following = place


def jump_with_count(machine, k, wanted, place):
    machine.registers[k] = machine.registers[k] - 1 & 0xFFFFFFFF
    if wanted and machine.registers[k] != 0:
        machine.following = place


def jump_on_condition(machine, k, wanted, place):
    if wanted and 8 >> machine.condition & k != 0:
        machine.following = place


JUMPS = {0x05: jump_with_link, 0x06: jump_with_count, 0x07: jump_on_condition}


def jump(machine, operation, k, wanted, place):
    """Does a jump to a place that was told ahead of it; where it is not wanted, all but the jump."""
    JUMPS[operation](machine, k, wanted, place)
