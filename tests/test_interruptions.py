"""Promise 3: every interruption by its number, and which of several is told."""

import unittest

from bench_case import BenchCase, memory_with, run

MOST = 0x7FFFFFFF


class EveryNumberTest(BenchCase):
    def test_1_no_such_operation(self):
        self.check("00 00", number=1)

    def test_3_execute_of_execute(self):
        self.check("44 00 0100", data={0x100: "44 00 0100"}, number=3)

    def test_5_outside_memory(self):
        self.check("58 10 2000", {2: 65536}, number=5)

    def test_6_no_multiple(self):
        self.check("58 10 0102", number=6)

    def test_6_an_odd_pair(self):
        self.check("8F 30 0001", number=6)

    def test_6_lengths(self):
        self.check("FC 11 0100 0100", data={0x100: "00 0C"}, number=6)

    def test_7_no_digits_or_sign(self):
        self.check("FA 00 0100 0101", data={0x100: "1C 11"}, number=7)

    def test_8_a_number_too_great(self):
        self.check("1A 11", {1: MOST}, then={1: 0xFFFFFFFE}, condition=3, mask=8, number=8)

    def test_9_a_quotient(self):
        self.check("1D 24", {2: 1, 3: 0, 4: 1}, number=9)

    def test_9_of_4F_is_done(self):
        self.check("4F 10 0100", data={0x100: "00 00 10 00 00 00 00 0C"}, then={1: 10 ** 10 % 2 ** 32}, number=9)

    def test_10_a_decimal_number_too_great(self):
        self.check("FA 00 0100 0101", data={0x100: "9C 2C"}, stored={0x100: "1C"}, condition=3, mask=4, number=10)

    def test_11_a_decimal_quotient(self):
        self.check("FD 10 0100 0102", data={0x100: "12 3C 1C"}, number=11)


class WhichIsToldTest(BenchCase):
    def test_6_ahead_of_5(self):
        self.check("58 10 2001", {2: 65536}, number=6)
        self.check("40 10 2001", {2: 65536}, number=6)
        self.check("4E 10 2004", {2: 65536}, number=6)
        self.check("90 0F 2002", {2: 65536}, number=6)
        self.check("5D 30 2000", {2: 65536}, number=6)
        self.check("FD 1F 2000 2000", {2: 65536}, number=6)

    def test_6_ahead_of_7(self):
        self.check("FC 11 0100 0100", data={0x100: "FF FF"}, number=6)
        self.check("4F 10 0101", data={0x100: "FF" * 16}, number=6)

    def test_6_ahead_of_9(self):
        self.check("1D 12", {2: 0}, number=6)
        self.check("5D 10 0100", number=6)
        self.check("5D 20 0102", number=6)

    def test_6_ahead_of_11(self):
        self.check("FD 11 0100 0102", data={0x100: "00 1C 00 0C"}, number=6)

    def test_5_ahead_of_9(self):
        self.check("5D 20 4000", {2: 1, 3: 0, 4: 65536}, number=5)

    def test_5_ahead_of_7_and_11(self):
        self.check("FD 20 2000 0100", {2: 65534}, {0x100: "0C"}, number=5)
        self.check("FC 20 2000 0100", {2: 65534}, {0x100: "11"}, number=5)

    def test_7_ahead_of_9(self):
        self.check("4F 10 0100", data={0x100: "99 99 99 99 99 99 99 99"}, number=7)

    def test_7_ahead_of_11(self):
        self.check("FD 10 0100 0102", data={0x100: "12 31 0C"}, number=7)
        self.check("FD 10 0100 0102", data={0x100: "12 3C 00"}, number=7)

    def test_an_odd_place_ahead_of_one_outside(self):
        self.assertEqual(run([], place=65537).told, [1, 1, 6, 65537, 0])
        self.check("44 00 2001", {2: 65536}, number=6)

    def test_execute_s_place_ahead_of_what_it_does(self):
        self.check("44 00 0101", data={0x100: "00 44 00 00"}, number=6)
        self.check("44 00 0100", data={0x100: "00 00"}, number=1)


class ThenTest(BenchCase):
    def test_a_run_ends_and_the_next_one_goes_on_behind(self):
        memory = memory_with({0: "5A 10 0101 1A 12 0A 09"})
        outcome = run(memory, {1: 5, 2: 6}, steps=50)
        self.assertEqual(outcome.told, [1, 1, 6, 0, 2])
        self.assertEqual((outcome.following, outcome.registers[1]), (4, 5))
        outcome = run(memory, {1: 5, 2: 6}, place=outcome.following, steps=50)
        self.assertEqual(outcome.told, [2, 2, 9, 6, 1])
        self.assertEqual(outcome.registers[1], 11)

    def test_without_the_mask_it_goes_on(self):
        memory = memory_with({0: "1A 12 FA 00 0100 0101 0A 09", 0x100: "9C 2C"})
        outcome = run(memory, {1: MOST, 2: 1}, mask=3, steps=50)
        self.assertEqual(outcome.told, [3, 2, 9, 8, 1])
        self.assertEqual((outcome.condition, outcome.changes), (3, [0x100, 0x1C]))

    def test_the_mask_may_be_set_by_04(self):
        memory = memory_with({0: "04 30 1A 12 0A 09"})
        outcome = run(memory, {1: MOST, 2: 1, 3: 0x08000000}, steps=50)
        self.assertEqual(outcome.told, [2, 1, 8, 2, 1])
        outcome = run(memory, {1: MOST, 2: 1, 3: 0x07000000}, mask=15, steps=50)
        self.assertEqual(outcome.told, [3, 2, 9, 4, 1])

    def test_nothing_is_stored_in_part(self):
        self.check("90 0F 2000", {2: 65500}, number=5)
        self.check("D2 FF 2000 0000", {2: 65500}, number=5)
        self.check("DC 01 2000 0000", {2: 65535}, number=5)


if __name__ == "__main__":
    unittest.main()
