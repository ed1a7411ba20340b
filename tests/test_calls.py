"""Promises 1 to 3: the calls reset, set, get and run, and the interface."""

import copy
import unittest

from bench_case import filler, memory_with, numbers, replies, run, state_calls
from bitmill.bench import answers

ALL_ZERO = [[0, 0]] * 19
OUT_OF_REACH = (-1, 19, 20, 255, -2147483648, 2147483647)
SET_ALL = [number for which in range(19) for number in (1, which, 0xF1F2F3F4 + which)]
STATE_SET = [[0, 0xF1F2F3F4 + which] for which in range(16)] + [[0, 0xF2F404], [0, 1], [0, 6]]


class ResetTest(unittest.TestCase):
    def test_answer(self):
        self.assertEqual(answers([0]), [1, 0])
        self.assertEqual(answers([0, 0, 0]), [1, 0, 1, 0, 1, 0])

    def test_everything_is_0_at_the_start(self):
        self.assertEqual(replies([0] + state_calls()), [[0]] + ALL_ZERO)

    def test_everything_is_0_when_it_comes_again(self):
        calls = [0] + SET_ALL + state_calls() + [0] + state_calls()
        self.assertEqual(replies(calls), [[0]] + [[0]] * 19 + STATE_SET + [[0]] + ALL_ZERO)

    def test_everything_is_0_behind_a_run(self):
        store_and_link = [0x92, 0xFF, 0x01, 0x00, 0x05, 0xF0]
        calls = [0, 1, 17, 3, 3, 2, 6] + store_and_link + [0] + state_calls() + [3, 0, 0, 3, 1, 0]
        told = replies(calls)
        self.assertEqual(told[3], [0])
        self.assertEqual(told[4:23], ALL_ZERO)
        self.assertEqual(told[23], [0, 0, 0, 0, 0, 0])
        self.assertEqual(told[24], [1, 1, 1, 0, 1, 0])


class SetAndGetTest(unittest.TestCase):
    def test_each_by_itself(self):
        for which in range(19):
            kept = 0xFFFFFFFF if which < 16 else (0xFFFFFF, 3, 15)[which - 16]
            for value in (0, 1, 2, 0x12345678, 0x80000000, 0xFEDCBA95, 0xFFFFFFFF):
                with self.subTest(which=which, value=value):
                    state = [[0, 0]] * 19
                    state[which] = [0, value & kept]
                    told = replies([0, 1, which, value] + state_calls())
                    self.assertEqual(told, [[0], [0]] + state)

    def test_only_some_bits_are_kept(self):
        calls = [0, 1, 16, 0xFF123457, 1, 17, 0xFFFFFFFE, 1, 18, 0xFFFFFFFA, 2, 16, 2, 17, 2, 18]
        self.assertEqual(answers(calls), [1, 0, 1, 0, 1, 0, 1, 0, 2, 0, 0x123457, 2, 0, 2, 2, 0, 10])

    def test_all_together(self):
        self.assertEqual(replies([0] + SET_ALL + state_calls()), [[0]] * 20 + STATE_SET)

    def test_refusals_leave_the_machine(self):
        for which in OUT_OF_REACH:
            with self.subTest(which=which):
                calls = [0] + SET_ALL + [1, which, 0xFFFFFFFF, 2, which] + state_calls()
                self.assertEqual(replies(calls), [[0]] * 20 + [[-2], [-2]] + STATE_SET)

    def test_a_refusal_is_its_number_alone(self):
        self.assertEqual(answers([0, 1, 19, 0, 2, 19, 2, 18]), [1, 0, 1, -2, 1, -2, 2, 0, 0])


class RunTest(unittest.TestCase):
    def test_steps_out_of_reach(self):
        for steps in (-1, 1000001, -2147483648, 2147483647):
            with self.subTest(steps=steps):
                calls = [0] + SET_ALL + [3, steps, 4, 0x92, 0xFF, 0x01, 0x00] + state_calls()
                self.assertEqual(replies(calls), [[0]] * 20 + [[-2]] + STATE_SET)
        self.assertEqual(answers([0, 3, -1, 0, 3, 1000001, 2, 3, 3]), [1, 0, 1, -2, 1, -2])

    def test_no_step(self):
        calls = [0] + SET_ALL + [3, 0, 2, 0x05, 0x10] + state_calls()
        self.assertEqual(replies(calls), [[0]] * 20 + [[0, 0, 0, 0, 0, 0]] + STATE_SET)

    def test_no_step_behind_a_run(self):
        self.assertEqual(answers([0, 3, 1, 0, 3, 0, 0]), [1, 0, 6, 1, 1, 1, 0, 1, 0, 6, 0, 0, 0, 0, 0, 0])

    def test_one_step(self):
        self.assertEqual(answers([0, 3, 1, 4, 0x41, 0x10, 0x01, 0x23, 2, 1, 2, 16]),
                         [1, 0, 6, 1, 0, 0, 0, 2, 0, 2, 0, 0x123, 2, 0, 4])

    def test_most_steps(self):
        self.assertEqual(answers([0, 3, 1000000, 4, 0x47, 0xF0, 0x00, 0x00]), [1, 0, 6, 1000000, 0, 0, 0, 2, 0])

    def test_many_steps_count(self):
        calls = [0, 3, 999999, 6, 0x06, 0x10, 0x47, 0xF0, 0x00, 0x00, 2, 1, 2, 16]
        self.assertEqual(replies(calls), [[0], [999999, 0, 0, 0, 1, 0], [0, 2 ** 32 - 500000], [0, 2]])

    def test_ends_by_steps(self):
        calls = [0, 3, 2, 6, 0x18, 0x12, 0x18, 0x12, 0x18, 0x12]
        self.assertEqual(replies(calls)[1], [2, 0, 0, 2, 1, 0])

    def test_ends_by_an_interruption(self):
        calls = [0, 3, 9, 6, 0x18, 0x12, 0x18, 0x12, 0x00, 0x00, 2, 16]
        self.assertEqual(replies(calls)[1:], [[3, 1, 1, 4, 1, 0], [0, 6]])

    def test_ends_by_the_supervisor(self):
        calls = [0, 3, 9, 4, 0x18, 0x12, 0x0A, 0xC7, 2, 16]
        self.assertEqual(replies(calls)[1:], [[2, 2, 0xC7, 2, 1, 0], [0, 4]])

    def test_the_last_step_may_end_otherwise(self):
        self.assertEqual(replies([0, 3, 2, 4, 0x18, 0x12, 0x0A, 0x00])[1], [2, 2, 0, 2, 1, 0])
        self.assertEqual(replies([0, 3, 2, 4, 0x18, 0x12, 0x1C, 0x10])[1], [2, 1, 6, 2, 1, 0])

    def test_goes_on_where_it_ended(self):
        code = [0x41, 0x10, 0x00, 0x07, 0x0A, 0x01, 0x1A, 0x11]
        calls = [0, 3, 9, 8] + code + [3, 1, 8] + code + [2, 1]
        self.assertEqual(replies(calls)[1:], [[2, 2, 1, 4, 1, 0], [1, 0, 0, 6, 1, 0], [0, 14]])


class MemoryOfARunTest(unittest.TestCase):
    def test_none_is_told(self):
        self.assertEqual(answers([0, 3, 1, 0]), [1, 0, 6, 1, 1, 1, 0, 1, 0])

    def test_one_byte_is_told(self):
        self.assertEqual(answers([0, 3, 1, 1, 0x0A]), [1, 0, 6, 1, 2, 0, 0, 1, 0])

    def test_1024_bytes_are_told(self):
        memory = [0x18] * 1022 + [0x0A, 0x7B]
        calls = [0, 3, 1000, 1024] + memory
        self.assertEqual(replies(calls)[1], [512, 2, 0x7B, 1022, 1, 0])

    def test_what_is_behind_the_told_bytes_is_0(self):
        code = "D1 FF 03 00 F0 00"
        memory = memory_with({0: code, 0x300: "FF" * 256})
        outcome = run(memory, {15: 65280})
        self.assertEqual(outcome.changes, [x for at in range(0x300, 0x400) for x in (at, 0xF0)])

    def test_registers_stay_and_memory_does_not(self):
        calls = [0, 1, 5, 0xABCD, 1, 18, 9]
        calls += [3, 1, 4, 0x92, 0x77, 0x01, 0x00, 1, 16, 0, 3, 1, 4, 0x43, 0x60, 0x01, 0x00] + state_calls()
        told = replies(calls)
        self.assertEqual(told[3], [1, 0, 0, 0, 2, 2, 0x100, 0x77])
        self.assertEqual(told[5], [1, 0, 0, 0, 2, 0])
        self.assertEqual(told[6:], [[0, 0]] * 5 + [[0, 0xABCD]] + [[0, 0]] * 10 + [[0, 4], [0, 0], [0, 9]])

    def test_memory_of_an_earlier_longer_run_is_not_kept(self):
        calls = [0, 3, 0, 4, 1, 2, 3, 0x0A, 1, 16, 2, 3, 1, 1, 5]
        self.assertEqual(replies(calls)[3], [1, 1, 1, 2, 1, 0])

    def test_a_byte_that_is_the_same_is_not_told(self):
        memory = memory_with({0: "92 33 0100 92 44 0101", 0x100: "33 43"})
        self.assertEqual(run(memory, steps=2).changes, [0x101, 0x44])

    def test_a_byte_that_was_changed_back_is_not_told(self):
        memory = memory_with({0: "97 FF 0100 97 FF 0100 97 01 0100", 0x100: "33"})
        self.assertEqual(run(memory, steps=2).changes, [])
        self.assertEqual(run(memory, steps=3).changes, [0x100, 0x32])

    def test_changes_are_told_from_the_least_place_on(self):
        memory = memory_with({0: "92 01 F000 92 02 0300 92 03 0100 92 04 02FF"})
        outcome = run(memory, {15: 65535}, steps=4)
        self.assertEqual(outcome.changes, [0x100, 3, 0x2FF, 4, 0x300, 2, 65535, 1])
        self.assertEqual(outcome.count, 8)

    def test_changes_behind_an_interruption_are_told(self):
        memory = memory_with({0: "92 01 0100 0000 92 02 0101"})
        outcome = run(memory, steps=5)
        self.assertEqual(outcome.told, [2, 1, 1, 4, 1])
        self.assertEqual(outcome.changes, [0x100, 1])

    def test_a_byte_that_becomes_0_is_told(self):
        memory = memory_with({0: "92 00 0100", 0x100: "33"})
        self.assertEqual(run(memory).changes, [0x100, 0])

    def test_an_instruction_may_be_changed_ahead_of_its_turn(self):
        memory = memory_with({0: "92 0A 0004 18 55"})
        outcome = run(memory, steps=5)
        self.assertEqual(outcome.told, [2, 2, 0x55, 4, 1])
        self.assertEqual(outcome.changes, [4, 0x0A])


class InterfaceTest(unittest.TestCase):
    def long_list(self):
        code = numbers("1A 12 50 10 0100 D2 07 0200 0100 4E 10 0180 FA 77 0180 0180 42 10 0003 0A 05")
        calls = [0] + SET_ALL
        calls += [1, 16, 0, 1, 2, 12345]
        while self.count_calls(calls) < 297:
            calls += [3, 10, len(code)] + code + [1, 16, 0, 2, 1]
        calls += [2, 99]
        while self.count_calls(calls) < 300:
            calls += [2, 1]
        return calls

    def count_calls(self, calls):
        count = 0
        at = 0
        while at < len(calls):
            at += (1, 3, 2, 3 + (calls[at + 2] if calls[at] == 3 else 0))[calls[at]]
            count += 1
        return count

    def test_300_calls(self):
        calls = self.long_list()
        self.assertEqual(self.count_calls(calls), 300)
        self.assertEqual(len(replies(calls)), 300)

    def test_the_list_is_the_same_behind_the_call(self):
        calls = self.long_list()
        before = copy.deepcopy(calls)
        answers(calls)
        self.assertEqual(calls, before)

    def test_a_list_that_refuses_changes_will_do(self):
        class Fixed(list):
            def refuse(self, *arguments):
                raise AssertionError("what is handed in is changed")

            __setitem__ = __delitem__ = __iadd__ = __imul__ = refuse
            append = clear = extend = insert = pop = remove = reverse = sort = refuse

        calls = self.long_list()
        self.assertEqual(answers(Fixed(calls)), answers(calls))

    def test_nothing_is_kept_from_one_time_to_the_next(self):
        calls = self.long_list()
        first = answers(calls)
        answers([0] + SET_ALL + [3, 5, 4, 0x92, 0xFF, 0x01, 0x00])
        self.assertEqual(answers(calls), first)
        self.assertEqual(replies([0] + state_calls()), [[0]] + ALL_ZERO)

    def test_an_answer_may_be_changed(self):
        first = answers([0, 2, 5])
        first[1] = 77
        self.assertEqual(answers([0, 2, 5]), [1, 0, 2, 0, 0])

    def test_all_numbers_are_int(self):
        told = answers(self.long_list())
        self.assertIs(type(told), list)
        self.assertEqual({type(number) for number in told}, {int})

    def test_every_listed_operation_leaves_int(self):
        for operation in range(256):
            memory = memory_with({0: f"{operation:02X} 24 0100 0200", 0x100: "00 00 12 3C", 0x200: "12 3C 00 00"})
            for which in (0, 1, 7):
                outcome = run(memory, {which: filler(which)})
                every = outcome.told + outcome.changes + outcome.registers + [outcome.condition, outcome.following]
                self.assertEqual({type(number) for number in every}, {int}, operation)

    def test_a_list_of_30000_numbers(self):
        part = [3, 1, 1000] + [0x18] * 1000
        calls = [0] + part * 29
        calls += [3, 0, 0] * 42
        self.assertLessEqual(len(calls), 30000)
        self.assertEqual(replies(calls), [[0]] + [[1, 0, 0, 2 * at, 1, 0] for at in range(29)] + [[0] * 6] * 42)


if __name__ == "__main__":
    unittest.main()
