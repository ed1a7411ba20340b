"""Promise 3: editing, DE and DF."""

import unittest

from bench_case import BenchCase, filler, memory_with, run

PATTERN = 0x100
DIGITS = 0x180
MONEY = "40 20 20 6B 20 20 21 4B 20 20 40 C3 D9"


class EditCase(BenchCase):
    def edit(self, pattern, digits, then, condition, marked=None):
        """DE and DF give the same text and condition; DF marks besides."""
        size = len(bytes.fromhex(pattern))
        data = {PATTERN: pattern + "20 20", DIGITS: digits}
        stored = {PATTERN: then}
        self.check(f"DE {size - 1:02X} 0100 0180", {1: 0xABFFFFFF}, data, stored=stored, condition=condition)
        place = {} if marked is None else {1: 0xAB000000 + PATTERN + marked}
        self.check(f"DF {size - 1:02X} 0100 0180", {1: 0xABFFFFFF}, data, then=place, stored=stored,
                   condition=condition)


class FieldTest(EditCase):
    def test_plus(self):
        self.edit(MONEY, "02 57 42 6C", "40 40 F2 6B F5 F7 F4 4B F2 F6 40 40 40", 2, marked=2)

    def test_minus(self):
        self.edit(MONEY, "00 00 02 6D", "40 40 40 40 40 40 40 4B F2 F6 40 C3 D9", 1)

    def test_0(self):
        self.edit(MONEY, "00 00 00 0C", "40 40 40 40 40 40 40 4B F0 F0 40 40 40", 0)
        self.edit(MONEY, "00 00 00 0D", "40 40 40 40 40 40 40 4B F0 F0 40 C3 D9", 0)

    def test_all_digits(self):
        self.edit(MONEY, "12 34 56 7C", "40 F1 F2 6B F3 F4 F5 4B F6 F7 40 40 40", 2, marked=1)

    def test_every_digit(self):
        self.edit("40" + "20" * 10, "12 34 56 78 90", "40 F1 F2 F3 F4 F5 F6 F7 F8 F9 F0", 1, marked=1)
        self.edit("40" + "20" * 10, "01 23 45 67 89", "40 40 F1 F2 F3 F4 F5 F6 F7 F8 F9", 1, marked=2)

    def test_every_sign(self):
        for sign in "ACEF":
            self.edit("5C 20 20 20 60", f"01 2{sign}", "5C 5C F1 F2 5C", 2, marked=2)
        for sign in "BD":
            self.edit("5C 20 20 20 60", f"01 2{sign}", "5C 5C F1 F2 60", 1, marked=2)

    def test_a_sign_behind_which_a_new_number_begins(self):
        self.edit("40 20 20 20 20", "1C 02 3D", "40 F1 40 F2 F3", 1, marked=3)
        self.edit("40 20 20 20 20", "1D 02 3D", "40 F1 F0 F2 F3", 1, marked=1)

    def test_a_sign_in_the_lower_half_takes_no_byte_of_the_pattern(self):
        self.edit("40 20 20 20", "1D 2D 3D", "40 F1 F2 F3", 1, marked=1)

    def test_a_plus_turns_it_off_at_21_too(self):
        self.edit("40 21 6B", "0C", "40 40 40", 0)
        self.edit("40 21 6B", "0D", "40 40 6B", 0)
        self.edit("40 21 6B", "5C", "40 F5 40", 2, marked=1)

    def test_a_plus_behind_the_lower_half_is_not_looked_at(self):
        self.edit("40 20 20 20 6B", "12 3C", "40 F1 F2 F3 40", 2, marked=1)
        self.edit("40 20 20 6B", "12 3C", "40 F1 F2 6B", 1, marked=1)
        self.edit("40 20 20 6B", "01 3C", "40 40 F1 6B", 1, marked=2)

    def test_21_turns_it_on_behind_its_digit(self):
        self.edit("40 21 20 20", "00 00", "40 40 F0 F0", 0)
        self.edit("40 20 21 20", "00 01", "40 40 40 F0", 0)
        self.edit("40 21 20 20", "00 10", "40 40 F0 F1", 1)

    def test_other_bytes_stay_where_it_is_on(self):
        self.edit("40 6B 20 6B 20 4B 60", "01", "40 40 40 40 F1 4B 60", 1, marked=4)

    def test_a_digit_where_it_is_on_marks_nothing_more(self):
        self.edit("40 20 20 20", "05 60", "40 40 F5 F6", 1, marked=2)
        self.edit("40 21 20", "05", "40 40 F5", 1)


class FillTest(EditCase):
    def test_the_first_byte_stays(self):
        self.edit("5C", "FF", "5C", 0)
        self.edit("00 20", "00", "00 00", 0)
        self.edit("F7 6B", "FF", "F7 F7", 0)

    def test_the_first_byte_is_20(self):
        self.edit("20 20 20 6B", "00 5D", "20 20 F5 6B", 1, marked=2)
        self.edit("20 6B", "70", "F7 6B", 1, marked=0)
        self.edit("20 6B", "00", "20 20", 0)

    def test_the_first_byte_is_21(self):
        self.edit("21 20 6B", "00", "21 F0 6B", 0)
        self.edit("21 20 6B", "03", "21 F3 6B", 1)
        self.edit("21 20 6B", "30", "F3 F0 6B", 1, marked=0)

    def test_the_first_byte_is_22(self):
        self.edit("22 20 6B 20", "00", "22 22 22 22", 0)
        self.edit("22 20 6B 20", "10", "22 F1 6B F0", 1, marked=1)


class ManyFieldsTest(EditCase):
    def test_22_turns_it_off(self):
        self.edit("40 20 20 22 6B 20 20", "12 05", "40 F1 F2 40 40 40 F5", 1, marked=6)
        self.edit("40 20 20 22 6B 20 20", "12 35", "40 F1 F2 40 40 F3 F5", 1, marked=5)

    def test_the_condition_is_the_last_field_s(self):
        self.edit("40 20 20 22 20 20", "12 00", "40 F1 F2 40 40 40", 0, marked=1)
        self.edit("40 20 20 20 22 20", "12 3D 5C", "40 F1 F2 F3 40 F5", 2, marked=5)
        self.edit("40 20 22 20", "0D 5D", "40 40 40 F5", 1, marked=3)
        self.edit("40 20 22", "5D", "40 F5 40", 0, marked=1)
        self.edit("40 20 22 6B", "5D", "40 F5 40 40", 0, marked=1)
        self.edit("40 21 22 21", "0D 0D", "40 40 40 40", 0)
        self.edit("40 20 22 21 20", "5D 00", "40 F5 40 40 F0", 0, marked=1)

    def test_a_half_waits_beyond_the_field(self):
        self.edit("40 20 22 20 20", "12 34", "40 F1 40 F2 F3", 1, marked=3)

    def test_the_last_mark_counts(self):
        self.edit("40 20 22 20 22 20", "1D 2D 0D", "40 F1 40 F2 40 40", 0, marked=3)


class BeforeTest(BenchCase):
    def test_digits_are_as_they_were(self):
        self.check("DE 03 0100 0101", data={0x100: "40 20 21 22"}, stored={0x100: "40 F2 F0 40"}, condition=0)
        self.check("DE 02 0100 0100", data={0x100: "20 20 20"}, stored={0x100: "F2 F0 F2"}, condition=1)

    def test_the_mark_with_its_own_register_as_place(self):
        self.check("DF 01 1000 0180", {1: 0xFF000100}, {0x100: "40 20", 0x180: "5C"}, then={1: 0xFF000101},
                   stored={0x100: "40 F5"}, condition=2)

    def test_a_mark_at_place_0(self):
        self.check("DF 00 0000 0180", {1: 0xABCDEF01}, {0: "20", 0x180: "5C"}, then={1: 0xAB000000},
                   stored={0: "F5"}, condition=2, place=0x40)

    def test_256_bytes(self):
        self.check("DE FF 0100 0200", data={0x100: "20" * 256, 0x200: "11" * 128}, stored={0x100: "F1" * 256},
                   condition=1)


class InterruptedTest(BenchCase):
    def test_no_digit(self):
        for byte in ("A0", "B1", "CC", "DD", "E5", "F0"):
            for operation in ("DE", "DF"):
                self.check(f"{operation} 03 0100 0180", data={PATTERN: "40 20 20 20", DIGITS: "12 " + byte}, number=7)
                self.check(f"{operation} 03 0100 0180", data={PATTERN: "40 20 20 20", DIGITS: "1C " + byte}, number=7)

    def test_a_byte_that_is_not_come_to_is_not_looked_at(self):
        self.check("DE 02 0100 0180", data={PATTERN: "40 20 20", DIGITS: "12 FF"}, stored={PATTERN: "40 F1 F2"},
                   condition=1)

    def test_a_pattern_outside(self):
        for operation in ("DE", "DF"):
            for place in (65534, 65536, 0xFFFFFF):
                self.check(f"{operation} 02 2000 0180", {2: place}, {DIGITS: "FF"}, number=5)
        self.check("DE 02 2000 0180", {2: 65533}, {DIGITS: "FF"}, condition=0)

    def test_digits_outside(self):
        for operation in ("DE", "DF"):
            for place in (65536, 0xFFFFFF):
                self.check(f"{operation} 01 0100 2000", {2: place}, {PATTERN: "40 20"}, number=5)
            self.check(f"{operation} 03 0100 2000", {2: 65535}, {PATTERN: "40 20 20 20"}, number=5)
        self.check("DE 02 0100 2000", {2: 65535}, {PATTERN: "40 21 20"}, stored={PATTERN: "40 40 F0"}, condition=0)

    def test_no_digits_are_wanted(self):
        self.check("DE 02 0100 2000", {2: 0xFFFFFF}, {PATTERN: "40 41 42"}, stored={PATTERN: "40 40 40"}, condition=0)

    def test_a_pattern_outside_is_told_ahead_of_no_digit(self):
        self.check("DE 01 2000 0180", {2: 65535}, {DIGITS: "FF"}, number=5)

    def test_whichever_it_comes_to_first(self):
        # The digits run out of memory at their second byte; their first is none, or is one.
        memory = memory_with({0: "92 FF F000 DE 03 0100 F000", PATTERN: "40 20 20 20"})
        outcome = run(memory, {15: 65535}, steps=2)
        self.assertEqual(outcome.told, [2, 1, 7, 4, 3])
        self.assertEqual((outcome.following, outcome.changes), (10, [65535, 255]))
        memory = memory_with({0: "92 12 F000 DF 03 0100 F000", PATTERN: "40 20 20 20"})
        outcome = run(memory, {15: 65535}, steps=2, condition=2)
        self.assertEqual(outcome.told, [2, 1, 5, 4, 3])
        self.assertEqual((outcome.following, outcome.changes), (10, [65535, 0x12]))
        self.assertEqual((outcome.registers[1], outcome.condition), (filler(1), 2))


if __name__ == "__main__":
    unittest.main()
