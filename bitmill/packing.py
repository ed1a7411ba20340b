"""Operations F1 to F3: halves of bytes are moved, whatever they are."""


def halves_at(machine, place, size):
    halves = []
    for byte in machine.memory[place:place + size]:
        halves.append(byte >> 4)
        halves.append(byte & 15)
    return halves


def fitted(values, room, filler):
    """The last `room` of the values, behind fillers where they are fewer."""
    missing = room - len(values)
    if missing >= 0:
        return [filler] * missing + values
    return values[-missing:]


def put_halves(machine, place, halves):
    for index in range(len(halves) // 2):
        machine.memory[place + index] = halves[2 * index] << 4 | halves[2 * index + 1]


def move_before_last(machine, first, size, second, other):
    halves = fitted(halves_at(machine, second, other), 2 * size - 1, 0)
    last = machine.memory[first + size - 1] & 15
    put_halves(machine, first, halves + [last])


def pack(machine, first, size, second, other):
    text = machine.memory[second:second + other]
    halves = [byte & 15 for byte in text] + [text[-1] >> 4]
    put_halves(machine, first, fitted(halves, 2 * size, 0))


def unpack(machine, first, size, second, other):
    halves = halves_at(machine, second, other)
    text = [0xF0 | half for half in halves[:-2]] + [halves[-1] << 4 | halves[-2]]
    for index, byte in enumerate(fitted(text, size, 0xF0)):
        machine.memory[first + index] = byte
