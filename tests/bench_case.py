"""What the tests share: code is run by bitmill.bench.answers, and all that came of it is compared."""

import unittest

from bitmill.bench import answers


def numbers(text):
    """The bytes that a text of hexadecimal digits and blanks stands for."""
    return list(bytes.fromhex(text))


def filler(which):
    """What stands in a register of which a test says nothing: one that is written by fault is seen."""
    return 0xA5000000 + 0x01010100 * which % 0x01000000 + which


def memory_with(parts):
    """A memory with these texts at these places, as many bytes as there are up to the last."""
    memory = []
    for place, text in parts.items():
        part = numbers(text)
        memory.extend([0] * (place + len(part) - len(memory)))
        memory[place:place + len(part)] = part
    return memory


def replies(calls):
    """The answers to a list of calls, one list each."""
    told = answers(calls)
    each = []
    at = 0
    while at < len(told):
        each.append(told[at + 1:at + 1 + told[at]])
        at += 1 + told[at]
    return each


def state_calls():
    return [number for which in range(19) for number in (2, which)]


class Outcome:
    """What a run answered, and how the machine was behind it."""

    def __init__(self, run_reply, state):
        self.told = run_reply[:5]
        self.count = run_reply[5]
        self.changes = run_reply[6:]
        self.registers = state[:16]
        self.following = state[16]
        self.condition = state[17]
        self.mask = state[18]

    def changed(self):
        return dict(zip(self.changes[::2], self.changes[1::2]))


def run(memory, registers=None, place=0, condition=0, mask=0, steps=1):
    calls = [0]
    for which in range(16):
        calls += [1, which, (registers or {}).get(which, filler(which))]
    calls += [1, 16, place, 1, 17, condition, 1, 18, mask]
    calls += [3, steps, len(memory)] + memory + state_calls()
    each = replies(calls)
    return Outcome(each[20], [reply[1] for reply in each[21:]])


def halves_of(code):
    first = numbers(code)[0]
    return 1 if first < 0x40 else 2 if first < 0xC0 else 3


class BenchCase(unittest.TestCase):
    maxDiff = None

    def check(self, code, given=None, data=None, then=None, stored=None, condition=None, from_condition=None,
              mask=0, mask_then=None, place=0, following=None, number=0, supervisor=None):
        """One step of `code`: what isn't named must be as it was, whatever the condition was before."""
        memory = memory_with({place: code, **(data or {})})
        registers = [(given or {}).get(which, filler(which)) for which in range(16)]
        registers_then = [(then or {}).get(which, registers[which]) for which in range(16)]
        changes = self.changes_by(memory, stored or {})
        ending = 1 if number else 0 if supervisor is None else 2
        told = [1, ending, number if supervisor is None else supervisor, place, halves_of(code)]
        for before in range(4) if from_condition is None else [from_condition]:
            outcome = run(memory, dict(enumerate(registers)), place, before, mask)
            with self.subTest(code=code, condition_before=before):
                self.assertEqual(outcome.told, told)
                self.assertEqual([f"{value:08X}" for value in outcome.registers],
                                 [f"{value:08X}" for value in registers_then])
                self.assertEqual(outcome.condition, before if condition is None else condition)
                self.assertEqual(outcome.mask, mask if mask_then is None else mask_then)
                self.assertEqual(outcome.following, place + 2 * halves_of(code) if following is None else following)
                self.assertEqual(outcome.changes, changes)
                self.assertEqual(outcome.count, len(changes))

    def changes_by(self, memory, stored):
        """What a run must tell where these texts stand in memory behind it."""
        after = {}
        for place, text in stored.items():
            after.update(enumerate(numbers(text), place))
        changes = []
        for place in sorted(after):
            if after[place] != (memory[place] if place < len(memory) else 0):
                changes += [place, after[place]]
        return changes
