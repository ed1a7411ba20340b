"""Promise 3: the operations on a register and memory at a place, 40 to 5F."""

import unittest

from bench_case import BenchCase, memory_with, run

LEAST = 0x80000000
MOST = 0x7FFFFFFF
MINUS_1 = 0xFFFFFFFF
AT = 0x100


class StoreTest(BenchCase):
    def test_40(self):
        self.check("40 10 0102", {1: 0x12345678}, stored={0x102: "56 78"})
        self.check("40 10 2000", {1: 0x12345678, 2: 65534}, stored={65534: "56 78"})

    def test_42(self):
        self.check("42 10 0101", {1: 0x12345678}, stored={0x101: "78"})
        self.check("42 10 2000", {1: 0x123456FF, 2: 65535}, stored={65535: "FF"})
        self.check("42 10 2000", {1: 1, 2: 65536}, number=5)

    def test_50(self):
        self.check("50 10 0104", {1: 0x12345678}, stored={0x104: "12 34 56 78"})
        self.check("50 00 0104", {0: 0xFEDCBA98}, stored={0x104: "FE DC BA 98"})
        self.check("50 10 2000", {1: 0x12345678, 2: 65532}, stored={65532: "12 34 56 78"})

    def test_4E(self):
        self.check("4E 10 0108", {1: 0}, data={0x108: "FF" * 8}, stored={0x108: "00 00 00 00 00 00 00 0C"})
        self.check("4E 10 0108", {1: 1234567}, stored={0x108: "00 00 00 00 12 34 56 7C"})
        self.check("4E 10 0108", {1: MINUS_1}, stored={0x108: "00 00 00 00 00 00 00 1D"})
        self.check("4E 10 0108", {1: MOST}, stored={0x108: "00 00 02 14 74 83 64 7C"}, mask=15)
        self.check("4E 10 0108", {1: LEAST}, stored={0x108: "00 00 02 14 74 83 64 8D"}, mask=15)
        self.check("4E 10 2000", {1: 5, 2: 65528}, stored={65535: "5C"})


class LoadTest(BenchCase):
    def test_41(self):
        self.check("41 10 0FFF", then={1: 0xFFF})
        self.check("41 12 3FFF", {2: 0xFFFFFF, 3: 0xFF000001}, then={1: 0xFFF})
        self.check("41 10 2000", {2: 0xFFFFFFFF}, then={1: 0xFFFFFF})

    def test_43(self):
        self.check("43 10 0101", {1: 0x12345678}, {AT: "00 9A"}, then={1: 0x1234569A})
        self.check("43 10 2000", {1: 0x123456FF, 2: 65535}, then={1: 0x12345600})
        self.check("43 10 2000", {2: 65536}, number=5)

    def test_48(self):
        self.check("48 10 0102", data={0x102: "7F FE"}, then={1: 0x7FFE})
        self.check("48 10 0102", data={0x102: "80 01"}, then={1: 0xFFFF8001})
        self.check("48 10 0102", data={0x102: "FF FF"}, then={1: MINUS_1})
        self.check("48 10 2000", {2: 65534}, then={1: 0})

    def test_4F(self):
        for text, number in (("00 00 00 00 00 00 00 0C", 0), ("00 00 00 00 00 00 00 0D", 0),
                             ("00 00 00 00 12 34 56 7C", 1234567), ("00 00 00 00 12 34 56 7D", 2 ** 32 - 1234567),
                             ("00 00 02 14 74 83 64 7F", MOST), ("00 00 02 14 74 83 64 8B", LEAST)):
            self.check("4F 10 0108", data={0x108: text}, then={1: number}, mask=15)

    def test_4F_with_every_sign(self):
        for sign in "ACEF":
            self.check("4F 10 0108", data={0x108: f"00 00 00 00 00 00 12 3{sign}"}, then={1: 123})
        for sign in "BD":
            self.check("4F 10 0108", data={0x108: f"00 00 00 00 00 00 12 3{sign}"}, then={1: 2 ** 32 - 123})

    def test_4F_too_great_is_done_and_interrupted(self):
        for text, number in (("00 00 02 14 74 83 64 8C", LEAST), ("00 00 02 14 74 83 64 9D", MOST),
                             ("00 00 04 29 49 67 29 6C", 0), ("99 99 99 99 99 99 99 9C", 999999999999999 % 2 ** 32),
                             ("99 99 99 99 99 99 99 9D", -999999999999999 % 2 ** 32)):
            self.check("4F 10 0108", data={0x108: text}, then={1: number}, number=9)

    def test_4F_of_no_number(self):
        for text in ("00 00 00 00 00 00 00 00", "00 00 00 00 00 00 00 19", "A0 00 00 00 00 00 00 1C",
                     "0A 00 00 00 00 00 00 1C", "00 00 00 00 00 00 0B 1C", "00 00 00 00 00 00 00 AC",
                     "F9 99 99 99 99 99 99 9C"):
            self.check("4F 10 0108", data={0x108: text}, number=7)

    def test_58(self):
        self.check("58 10 0104", data={0x104: "FE DC BA 98"}, then={1: 0xFEDCBA98})
        self.check("58 10 0104", data={0x104: "00 00 00 01"}, then={1: 1})
        self.check("58 10 2000", {2: 65532}, then={1: 0})


class JumpTest(BenchCase):
    def test_45(self):
        self.check("45 10 0300", from_condition=2, mask=5, place=0x40, then={1: 0xA5000044}, following=0x300)
        self.check("45 12 3004", {2: 0x300, 3: 0xFF000002}, from_condition=0, then={1: 0x80000004}, following=0x306)

    def test_45_the_place_is_as_it_was(self):
        self.check("45 20 2000", {2: 0x400}, from_condition=0, then={2: 0x80000004}, following=0x400)
        self.check("45 22 0000", {2: 0x400}, from_condition=0, then={2: 0x80000004}, following=0x400)

    def test_46(self):
        self.check("46 10 0300", {1: 2}, then={1: 1}, following=0x300)
        self.check("46 12 0300", {1: 2, 2: 6}, then={1: 1}, following=0x306)
        self.check("46 10 0300", {1: 1}, then={1: 0}, following=4)
        self.check("46 10 0300", {1: 0}, then={1: MINUS_1}, following=0x300)

    def test_46_the_place_is_as_it_was(self):
        self.check("46 20 2000", {2: 0x400}, then={2: 0x3FF}, following=0x400)

    def test_47(self):
        for condition in range(4):
            for k in range(16):
                jumps = k & (8, 4, 2, 1)[condition]
                self.check(f"47 {k:X}0 0300", from_condition=condition, following=0x300 if jumps else 4)
                self.check(f"47 {k:X}2 0300", {2: 5}, from_condition=condition, following=0x305 if jumps else 4)

    def test_a_jump_outside_is_done(self):
        self.check("47 F0 2001", {2: 0xFFFFFFFE}, following=0xFFFFFF)
        self.check("45 10 2000", {2: 65536}, from_condition=0, then={1: 0x80000004}, following=65536)


class HalfTest(BenchCase):
    def test_49(self):
        for first, half, condition in ((5, "00 05", 0), (4, "00 05", 1), (6, "00 05", 2), (MINUS_1, "FF FF", 0),
                                       (0, "FF FF", 2), (0xFFFF, "FF FF", 2), (LEAST, "80 00", 1), (MOST, "7F FF", 2)):
            self.check("49 10 0102", {1: first}, {0x102: half}, condition=condition)

    def test_4A(self):
        self.check("4A 10 0102", {1: 5}, {0x102: "00 07"}, then={1: 12}, condition=2)
        self.check("4A 10 0102", {1: 5}, {0x102: "FF FB"}, then={1: 0}, condition=0)
        self.check("4A 10 0102", {1: 5}, {0x102: "80 00"}, then={1: 0xFFFF8005}, condition=1)
        self.check("4A 10 0102", {1: MOST}, {0x102: "00 01"}, then={1: LEAST}, condition=3)
        self.check("4A 10 0102", {1: MOST}, {0x102: "00 01"}, then={1: LEAST}, condition=3, mask=8, number=8)
        self.check("4A 10 0102", {1: LEAST}, {0x102: "FF FF"}, then={1: MOST}, condition=3, mask=8, number=8)

    def test_4B(self):
        self.check("4B 10 0102", {1: 5}, {0x102: "00 07"}, then={1: 0xFFFFFFFE}, condition=1)
        self.check("4B 10 0102", {1: 5}, {0x102: "FF FB"}, then={1: 10}, condition=2)
        self.check("4B 10 0102", {1: 7}, {0x102: "00 07"}, then={1: 0}, condition=0)
        self.check("4B 10 0102", {1: MOST}, {0x102: "FF FF"}, then={1: LEAST}, condition=3)
        self.check("4B 10 0102", {1: LEAST}, {0x102: "00 01"}, then={1: MOST}, condition=3, mask=8, number=8)

    def test_4C(self):
        self.check("4C 10 0102", {1: 6}, {0x102: "00 07"}, then={1: 42})
        self.check("4C 10 0102", {1: 6}, {0x102: "FF FF"}, then={1: 0xFFFFFFFA})
        self.check("4C 30 0102", {3: MINUS_1}, {0x102: "80 00"}, then={3: 0x8000})
        self.check("4C 10 0102", {1: 0x12345678}, {0x102: "10 00"}, then={1: 0x45678000}, mask=15)
        self.check("4C 10 0102", {1: LEAST}, {0x102: "FF FF"}, then={1: LEAST}, mask=15)


class WordTest(BenchCase):
    def both(self, operation, first, word, then=None, **rest):
        self.check(f"{operation} 10 0104", {1: first}, {0x104: f"{word:08X}"}, then=then, **rest)

    def test_bits(self):
        self.both("54", 0xFF00F0F1, 0x8421FFFF, {1: 0x8400F0F1}, condition=1)
        self.both("54", 0xF0F0F0F0, 0x0F0F0F0F, {1: 0}, condition=0)
        self.both("56", 0xF0000001, 0x0000FF00, {1: 0xF000FF01}, condition=1)
        self.both("56", 0, 0, {1: 0}, condition=0)
        self.both("57", 0xFF00FF01, 0x0FF00F00, {1: 0xF0F0F001}, condition=1)
        self.both("57", 0x12345678, 0x12345678, {1: 0}, condition=0)

    def test_compared(self):
        self.both("55", MOST, LEAST, condition=1)
        self.both("55", LEAST, MOST, condition=2)
        self.both("55", LEAST, LEAST, condition=0)
        self.both("59", MOST, LEAST, condition=2)
        self.both("59", LEAST, MOST, condition=1)
        self.both("59", LEAST, LEAST, condition=0)

    def test_sums(self):
        self.both("5A", 5, 7, {1: 12}, condition=2)
        self.both("5A", MOST, 1, {1: LEAST}, condition=3)
        self.both("5A", MOST, 1, {1: LEAST}, condition=3, mask=8, number=8)
        self.both("5B", 5, 7, {1: 0xFFFFFFFE}, condition=1)
        self.both("5B", LEAST, 1, {1: MOST}, condition=3, mask=7)
        self.both("5B", LEAST, 1, {1: MOST}, condition=3, mask=8, number=8)
        self.both("5E", MINUS_1, 1, {1: 0}, condition=2, mask=15)
        self.both("5E", MINUS_1, 2, {1: 1}, condition=3)
        self.both("5F", 5, 6, {1: MINUS_1}, condition=1)
        self.both("5F", 5, 5, {1: 0}, condition=2)

    def test_5C(self):
        self.check("5C 20 0104", {3: MINUS_1}, {0x104: "00 00 00 07"}, then={2: MINUS_1, 3: 0xFFFFFFF9})
        self.check("5C 20 0104", {3: LEAST}, {0x104: "80 00 00 00"}, then={2: 0x40000000, 3: 0})
        self.check("5C 30 0104", number=6)

    def test_5D(self):
        self.check("5D 20 0104", {2: 0, 3: 17}, {0x104: "FF FF FF FB"}, then={2: 2, 3: 0xFFFFFFFD})
        self.check("5D 20 0104", {2: 0, 3: 17}, {0x104: "00 00 00 00"}, number=9)
        self.check("5D 20 0104", {2: 1, 3: 0}, {0x104: "00 00 00 02"}, number=9)
        self.check("5D 30 0104", number=6)

    def test_54_to_5F_are_as_14_to_1F(self):
        values = (0, 1, 2, 0x1234, MOST, LEAST, LEAST + 1, MINUS_1, 0xFEDCBA98)
        for low in range(0x4, 0x10):
            for first in values:
                for second in values:
                    self.same(low, first, second)

    def same(self, low, first, second):
        given = {2: 0 if first < LEAST else MINUS_1, 3: first, 4: second, 5: AT}
        k = 2 if low in (0xC, 0xD) else 3
        two = run(memory_with({0: f"1{low:X} {k}4"}), given, mask=8)
        memory = run(memory_with({0: f"5{low:X} {k}0 5004", 0x104: f"{second:08X}"}), given, mask=8)
        self.assertEqual((two.told[1:3], two.registers, two.condition),
                         (memory.told[1:3], memory.registers, memory.condition), (low, first, second))


class MultipleAndOutsideTest(BenchCase):
    def test_multiples_of_2(self):
        for operation in ("40", "48", "49", "4A", "4B", "4C"):
            self.check(f"{operation} 10 0101", number=6)
            self.check(f"{operation} 10 2000", {2: 65535}, number=6)
            self.check(f"{operation} 10 2000", {2: 65537}, number=6)
            self.check(f"{operation} 10 2000", {2: 65536}, number=5)
            self.check(f"{operation} 10 2000", {2: 0xFFFFFE}, number=5)

    def test_multiples_of_4(self):
        for operation in ("50", "54", "55", "56", "57", "58", "59", "5A", "5B", "5C", "5D", "5E", "5F"):
            for place in (0x101, 0x102, 0x103, 65533, 65534, 65538):
                self.check(f"{operation} 40 2000", {2: place}, number=6)
            for place in (65536, 0xFFFFFC):
                self.check(f"{operation} 40 2000", {2: place}, number=5)

    def test_multiples_of_8(self):
        for operation in ("4E", "4F"):
            for place in (0x101, 0x102, 0x104, 65532, 65540):
                self.check(f"{operation} 10 2000", {2: place}, number=6)
            for place in (65536, 0xFFFFF8):
                self.check(f"{operation} 10 2000", {2: place}, number=5)

    def test_an_odd_pair_is_told_ahead_of_outside(self):
        for operation in ("5C", "5D"):
            self.check(f"{operation} 10 2000", {2: 65536}, number=6)


if __name__ == "__main__":
    unittest.main()
