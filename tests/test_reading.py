"""Promise 3: how an instruction is read, what is no operation, and execute."""

import unittest

from bench_case import BenchCase, filler, memory_with, run

LISTED = [
    0x04, 0x05, 0x06, 0x07, 0x0A,
    0x10, 0x11, 0x12, 0x13, 0x14, 0x15, 0x16, 0x17, 0x18, 0x19, 0x1A, 0x1B, 0x1C, 0x1D, 0x1E, 0x1F,
    0x40, 0x41, 0x42, 0x43, 0x44, 0x45, 0x46, 0x47, 0x48, 0x49, 0x4A, 0x4B, 0x4C, 0x4E, 0x4F,
    0x50, 0x54, 0x55, 0x56, 0x57, 0x58, 0x59, 0x5A, 0x5B, 0x5C, 0x5D, 0x5E, 0x5F,
    0x86, 0x87, 0x88, 0x89, 0x8A, 0x8B, 0x8C, 0x8D, 0x8E, 0x8F,
    0x90, 0x91, 0x92, 0x94, 0x95, 0x96, 0x97, 0x98,
    0xD1, 0xD2, 0xD3, 0xD4, 0xD5, 0xD6, 0xD7, 0xDC, 0xDD, 0xDE, 0xDF,
    0xF1, 0xF2, 0xF3, 0xF8, 0xF9, 0xFA, 0xFB, 0xFC, 0xFD,
]

# Bytes are put at the end of memory by code at 0, which then jumps to register 15.
PUT_LAST_HALF = "40 10 F000 07 FF"


class ReadingTest(BenchCase):
    def state(self, outcome):
        return outcome.following, outcome.condition, outcome.mask, outcome.changes

    def test_an_odd_place(self):
        for place in (1, 5, 65535, 65537, 0xFFFFFF):
            outcome = run(memory_with({0: "18 18 18 18 18 18 18"}), place=place, condition=2, mask=5)
            self.assertEqual(outcome.told, [1, 1, 6, place, 0])
            self.assertEqual(self.state(outcome), (place, 2, 5, []))
            self.assertEqual(outcome.registers, [filler(which) for which in range(16)])

    def test_a_place_outside(self):
        for place in (65536, 65538, 0x100000, 0xFFFFFE):
            outcome = run([0x18], place=place, condition=1, mask=3)
            self.assertEqual(outcome.told, [1, 1, 5, place, 0])
            self.assertEqual(self.state(outcome), (place, 1, 3, []))
            self.assertEqual(outcome.registers, [filler(which) for which in range(16)])

    def test_an_interruption_in_reading_stays_from_run_to_run(self):
        outcome = run([0x18], place=3, steps=7)
        self.assertEqual(outcome.told, [1, 1, 6, 3, 0])

    def test_two_bytes_at_the_end_of_memory(self):
        outcome = run(memory_with({0: PUT_LAST_HALF}), {1: 0x1823, 3: 77, 15: 65534}, steps=3)
        self.assertEqual(outcome.told, [3, 0, 0, 65534, 1])
        self.assertEqual((outcome.registers[2], outcome.following), (77, 65536))
        outcome = run(memory_with({0: PUT_LAST_HALF}), {1: 0x1823, 15: 65534}, steps=4)
        self.assertEqual(outcome.told, [4, 1, 5, 65536, 0])
        self.assertEqual(outcome.following, 65536)

    def test_a_link_at_the_end_of_memory(self):
        outcome = run(memory_with({0: PUT_LAST_HALF}), {1: 0x0520, 15: 65534}, steps=3, condition=1, mask=2)
        self.assertEqual(outcome.registers[2], 0x52010000)

    def test_a_part_outside(self):
        for half in (0x4120, 0x9200, 0xBF00, 0xD200, 0xFFFF, 0xC000):
            outcome = run(memory_with({0: PUT_LAST_HALF}), {1: half, 15: 65534}, steps=3)
            self.assertEqual(outcome.told, [3, 1, 5, 65534, 0], half)
            self.assertEqual(outcome.following, 65534)

    def test_six_bytes_with_two_outside(self):
        outcome = run(memory_with({0: PUT_LAST_HALF}), {1: 0xD200, 15: 65532}, steps=3)
        self.assertEqual(outcome.told, [3, 1, 5, 65532, 0])
        self.assertEqual(outcome.following, 65532)

    def test_four_and_six_bytes_that_end_with_memory(self):
        outcome = run(memory_with({0: PUT_LAST_HALF}), {1: 0x4120, 2: 5, 15: 65532}, steps=3)
        self.assertEqual(outcome.told, [3, 0, 0, 65532, 2])
        self.assertEqual((outcome.registers[2], outcome.following), (0, 65536))
        outcome = run(memory_with({0: PUT_LAST_HALF}), {1: 0xD500, 15: 65530}, steps=3)
        self.assertEqual(outcome.told, [3, 0, 0, 65530, 3])
        self.assertEqual(outcome.following, 65536)

    def test_lengths(self):
        self.check("18 12", {1: 3, 2: 4}, then={1: 4}, following=2)
        self.check("41 10 0004", then={1: 4}, following=4)
        self.check("92 05 0100", stored={0x100: "05"}, following=4)
        self.check("D2 00 0100 0000", stored={0x100: "D2"}, following=6)

    def test_every_first_byte_that_is_no_operation(self):
        for operation in range(256):
            if operation not in LISTED:
                self.check(f"{operation:02X} 24 0100 0200", data={0x100: "11 22"}, number=1, place=8)

    def test_no_operation_is_told_ahead_of_all_else(self):
        for operation in ("4D", "51", "53", "60", "7F", "80", "93", "99", "9C", "C4", "D0", "D8", "F0", "F4", "FE"):
            self.check(f"{operation} 1F FFFF FFFF", {15: 0xFFFFFF, 1: 1}, number=1)

    def test_every_listed_operation_is_one(self):
        for operation in LISTED:
            outcome = run(memory_with({0: f"{operation:02X} 24 0100 0200"}))
            self.assertNotEqual(outcome.told[1:3], [1, 1], operation)


class PlaceTest(BenchCase):
    def test_twelve_bits(self):
        self.check("41 10 0FFF", then={1: 0xFFF})

    def test_register_0_is_nothing_in_a_place(self):
        self.check("41 10 0123", {0: 0x5000}, then={1: 0x123})
        self.check("92 44 0200", {0: 7}, stored={0x200: "44"})

    def test_two_registers_are_added(self):
        self.check("41 12 3004", {2: 0x100, 3: 0x2000}, then={1: 0x2104})
        self.check("41 10 3004", {3: 0x2000}, then={1: 0x2004})
        self.check("41 12 0004", {2: 0x100}, then={1: 0x104})
        self.check("41 33 3001", {3: 0x20}, then={3: 0x41})

    def test_modulo_24_bits(self):
        self.check("41 10 3FFF", {3: 0xFFFFFFFF}, then={1: 0xFFE})
        self.check("41 12 3001", {2: 0x80FFFFFF, 3: 0x7F000001}, then={1: 1})
        self.check("41 12 3000", {2: 0x00800000, 3: 0x00812345}, then={1: 0x12345})
        self.check("42 12 3000", {1: 0x99, 2: 0xFF800000, 3: 0x00800200}, stored={0x200: "99"})
        self.check("D2 00 3001 4003", {3: 0xFF0001FF, 4: 0xFFFFFFFD}, data={}, stored={0x200: "D2"})

    def test_no_index_but_from_40_to_7F(self):
        self.check("92 02 0100", {2: 0x55}, stored={0x100: "02"})
        self.check("88 12 0004", {1: 0x100, 2: 1}, then={1: 0x10})


class ExecuteTest(BenchCase):
    def test_the_second_byte_is_or_ed(self):
        self.check("44 10 0100", {1: 0xFFFFFF24, 6: 9}, {0x100: "18 12"}, then={3: 9})
        self.check("44 10 0100", {1: 0x40, 2: 3, 4: 6}, {0x100: "18 02"}, then={4: 3})

    def test_the_memory_keeps_the_second_byte(self):
        self.check("44 10 0100", {1: 0x0F}, {0x100: "92 A0 0200"}, stored={0x200: "AF"})

    def test_register_0_or_s_nothing(self):
        self.check("44 00 0100", {0: 0xFF, 3: 5}, {0x100: "18 23"}, then={2: 5})

    def test_an_index(self):
        self.check("44 02 3004", {2: 0x50, 3: 0xAC}, {0x100: "92 05 0200"}, stored={0x200: "05"})

    def test_the_length_of_a_text(self):
        self.check("44 10 0100", {1: 2}, {0x100: "D2 00 0200 0300", 0x300: "0A 0B 0C 0D"}, stored={0x200: "0A 0B 0C"})

    def test_the_next_place_is_behind_the_44(self):
        self.check("44 00 0100", {2: 5}, {0x100: "18 32"}, then={3: 5}, place=0x40, following=0x44)

    def test_jumps(self):
        self.check("44 10 0100", {1: 0xF0, 2: 0x200}, {0x100: "07 02"}, following=0x200)
        self.check("44 10 0100", {1: 0}, {0x100: "47 00 0200"}, following=4)
        self.check("44 10 0100", {1: 0xF0}, {0x100: "47 00 0200"}, following=0x200)

    def test_the_length_in_a_link_is_2(self):
        for executed in ("05 20", "45 20 0044"):
            self.check("44 00 0100", data={0x100: executed}, place=0x40, from_condition=3, mask=5,
                       then={2: 0xB5000044}, following=0x44)

    def test_a_supervisor_call(self):
        self.check("44 10 0100", {1: 0x0C}, {0x100: "0A C1"}, supervisor=0xCD)

    def test_the_first_step_of_many(self):
        memory = memory_with({0: "44 00 0100 44 00 0104 0A 07", 0x100: "18 12 0000 18 34"})
        outcome = run(memory, {2: 6, 4: 9}, steps=10)
        self.assertEqual(outcome.told, [3, 2, 7, 8, 1])
        self.assertEqual(outcome.registers[1:5:2], [6, 9])

    def test_an_odd_place(self):
        for place in (0x101, 65535, 65537, 0xFFFFFF):
            self.check("44 00 2000", {2: place}, {0x100: "44 44 44 44"}, number=6)

    def test_first_two_bytes_outside(self):
        for place in (65536, 0xFFFFFE):
            self.check("44 00 2000", {2: place}, number=5)

    def test_execute_of_execute(self):
        self.check("44 00 0100", data={0x100: "44 00 0200", 0x200: "18 12"}, number=3)
        self.check("44 00 0000", number=3)

    def test_execute_of_execute_comes_ahead_of_the_rest_outside(self):
        memory = memory_with({0: "40 10 F000 44 00 F000"})
        outcome = run(memory, {1: 0x4400, 15: 65534}, steps=2)
        self.assertEqual(outcome.told, [2, 1, 3, 4, 2])
        self.assertEqual(outcome.following, 8)

    def test_the_rest_outside(self):
        for half in (0x4120, 0x9200, 0xD200, 0x6000, 0xFF00):
            memory = memory_with({0: "40 10 F000 44 00 F000"})
            outcome = run(memory, {1: half, 15: 65534}, steps=2)
            self.assertEqual(outcome.told, [2, 1, 5, 4, 2], half)
            self.assertEqual(outcome.following, 8)
        outcome = run(memory_with({0: "40 10 F000 44 00 F000"}), {1: 0xD200, 15: 65532}, steps=2)
        self.assertEqual(outcome.told, [2, 1, 5, 4, 2])

    def test_it_may_end_with_memory(self):
        memory = memory_with({0: "40 10 F000 44 00 F000"})
        outcome = run(memory, {1: 0x1823, 3: 8, 15: 65534}, steps=2)
        self.assertEqual(outcome.told, [2, 0, 0, 4, 2])
        self.assertEqual(outcome.registers[2], 8)

    def test_no_operation_is_executed(self):
        self.check("44 00 0100", data={0x100: "00 00"}, number=1)
        self.check("44 00 0100", data={0x100: "4D 00 0000"}, number=1)

    def test_what_is_executed_may_be_interrupted(self):
        self.check("44 10 0100", {1: 0x10}, {0x100: "1C 02"}, number=6)
        self.check("44 00 0100", {1: 0x7FFFFFFF, 2: 1}, {0x100: "1A 12"}, then={1: 0x80000000}, condition=3,
                   mask=8, number=8)
        self.check("44 00 0100", {2: 65536}, {0x100: "92 00 2000"}, number=5)


if __name__ == "__main__":
    unittest.main()
