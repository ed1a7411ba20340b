"""Promise 3: the operations on two registers, 04 to 1F."""

import unittest

from bench_case import BenchCase, memory_with, run

LEAST = 0x80000000
MOST = 0x7FFFFFFF
MINUS_1 = 0xFFFFFFFF


class ConditionAndMaskTest(BenchCase):
    def test_04(self):
        self.check("04 10", {1: 0x35ABCDEF}, condition=3, mask=10, mask_then=5)
        self.check("04 1F", {1: 0xCA000000}, condition=0, mask=1, mask_then=10)
        self.check("04 70", {7: 0xDFFFFFFF}, condition=1, mask=0, mask_then=15)
        self.check("04 00", {0: 0x20FFFFFF}, condition=2, mask=15, mask_then=0)


class JumpTest(BenchCase):
    def test_05(self):
        self.check("05 12", {2: 0x80000ABC}, from_condition=2, mask=9, place=0x40, then={1: 0x69000042}, following=0xABC)
        self.check("05 F0", {0: 0x200}, from_condition=0, then={15: 0x40000002}, following=2)
        self.check("05 01", {1: 0x200}, from_condition=3, mask=15, then={0: 0x7F000002}, following=0x200)

    def test_05_the_place_is_as_it_was(self):
        self.check("05 22", {2: 0xFF000201}, from_condition=1, then={2: 0x50000002}, following=0x201)

    def test_06(self):
        self.check("06 12", {1: 2, 2: 0xFF000300}, then={1: 1}, following=0x300)
        self.check("06 12", {1: 1, 2: 0x300}, then={1: 0}, following=2)
        self.check("06 12", {1: 0, 2: 0x300}, then={1: MINUS_1}, following=0x300)
        self.check("06 12", {1: LEAST, 2: 0x300}, then={1: MOST}, following=0x300)
        self.check("06 10", {1: 5, 0: 0x300}, then={1: 4}, following=2)
        self.check("06 02", {0: 5, 2: 0x300}, then={0: 4}, following=0x300)

    def test_06_the_place_is_as_it_was(self):
        self.check("06 22", {2: 0x302}, then={2: 0x301}, following=0x302)

    def test_07(self):
        for condition in range(4):
            for k in range(16):
                jumps = k & (8, 4, 2, 1)[condition]
                self.check(f"07 {k:X}2", {2: 0xFF000300}, from_condition=condition, following=0x300 if jumps else 2)
                self.check(f"07 {k:X}0", {0: 0x300}, from_condition=condition, following=2)

    def test_jump_to_an_odd_place_or_outside(self):
        self.check("07 F2", {2: 0x301}, following=0x301)
        self.check("07 F2", {2: 0xFFFFFFFF}, following=0xFFFFFF)
        outcome = run(memory_with({0: "07 F2"}), {2: 0x301}, steps=2)
        self.assertEqual(outcome.told, [2, 1, 6, 0x301, 0])
        outcome = run(memory_with({0: "07 F2"}), {2: 0xFFFFFFFE}, steps=2)
        self.assertEqual(outcome.told, [2, 1, 5, 0xFFFFFE, 0])

    def test_0A(self):
        for number in (0, 1, 15, 16, 0xA5, 255):
            self.check(f"0A {number:02X}", supervisor=number)


class SignTest(BenchCase):
    def test_10(self):
        self.check("10 12", {2: 5}, then={1: 5}, condition=2)
        self.check("10 12", {2: MINUS_1}, then={1: 1}, condition=2)
        self.check("10 12", {2: 0}, then={1: 0}, condition=0)
        self.check("10 12", {2: LEAST + 1}, then={1: MOST}, condition=2, mask=8)
        self.check("10 22", {2: 0xFFFFFFF0}, then={2: 16}, condition=2)

    def test_10_of_the_least(self):
        self.check("10 12", {2: LEAST}, then={1: LEAST}, condition=3)
        self.check("10 12", {2: LEAST}, then={1: LEAST}, condition=3, mask=7)
        self.check("10 12", {2: LEAST}, then={1: LEAST}, condition=3, mask=8, number=8)

    def test_11(self):
        self.check("11 12", {2: 5}, then={1: 0xFFFFFFFB}, condition=1)
        self.check("11 12", {2: MINUS_1}, then={1: MINUS_1}, condition=1)
        self.check("11 12", {2: 0}, then={1: 0}, condition=0)
        self.check("11 12", {2: LEAST}, then={1: LEAST}, condition=1, mask=8)
        self.check("11 12", {2: MOST}, then={1: LEAST + 1}, condition=1, mask=8)

    def test_12(self):
        self.check("12 12", {2: 5}, then={1: 5}, condition=2)
        self.check("12 12", {2: LEAST}, then={1: LEAST}, condition=1, mask=8)
        self.check("12 12", {2: 0}, then={1: 0}, condition=0)
        self.check("12 11", {1: MOST}, condition=2)

    def test_13(self):
        self.check("13 12", {2: 5}, then={1: 0xFFFFFFFB}, condition=1)
        self.check("13 12", {2: MINUS_1}, then={1: 1}, condition=2)
        self.check("13 12", {2: 0}, then={1: 0}, condition=0)
        self.check("13 12", {2: MOST}, then={1: LEAST + 1}, condition=1)
        self.check("13 11", {1: 7}, then={1: 0xFFFFFFF9}, condition=1)

    def test_13_of_the_least(self):
        self.check("13 12", {2: LEAST}, then={1: LEAST}, condition=3, mask=4)
        self.check("13 12", {2: LEAST}, then={1: LEAST}, condition=3, mask=12, number=8)


class BitsTest(BenchCase):
    def test_14(self):
        self.check("14 12", {1: 0xFF00F0F1, 2: 0x8421FFFF}, then={1: 0x8400F0F1}, condition=1)
        self.check("14 12", {1: 0xF0F0F0F0, 2: 0x0F0F0F0F}, then={1: 0}, condition=0)

    def test_16(self):
        self.check("16 12", {1: 0xF0000001, 2: 0x0000FF00}, then={1: 0xF000FF01}, condition=1)
        self.check("16 12", {1: 0, 2: 0}, then={1: 0}, condition=0)

    def test_17(self):
        self.check("17 12", {1: 0xFF00FF01, 2: 0x0FF00F00}, then={1: 0xF0F0F001}, condition=1)
        self.check("17 11", {1: 0x12345678}, then={1: 0}, condition=0)

    def test_18(self):
        self.check("18 12", {1: 1, 2: 0xFEDCBA98}, then={1: 0xFEDCBA98})
        self.check("18 F0", {0: 0}, then={15: 0})


class CompareTest(BenchCase):
    def test_15(self):
        for first, second, condition in ((1, 1, 0), (1, 2, 1), (2, 1, 2), (MOST, LEAST, 1), (MINUS_1, 0, 2),
                                         (MINUS_1, MINUS_1, 0), (0, MINUS_1, 1)):
            self.check("15 12", {1: first, 2: second}, condition=condition)

    def test_19(self):
        for first, second, condition in ((1, 1, 0), (1, 2, 1), (2, 1, 2), (MOST, LEAST, 2), (MINUS_1, 0, 1),
                                         (MINUS_1, MINUS_1, 0), (0, MINUS_1, 2), (LEAST, MOST, 1)):
            self.check("19 12", {1: first, 2: second}, condition=condition, mask=8)


class SumTest(BenchCase):
    def test_1A(self):
        self.check("1A 12", {1: 5, 2: 7}, then={1: 12}, condition=2)
        self.check("1A 12", {1: 5, 2: 0xFFFFFFFB}, then={1: 0}, condition=0, mask=8)
        self.check("1A 12", {1: 5, 2: 0xFFFFFFFA}, then={1: MINUS_1}, condition=1, mask=8)
        self.check("1A 12", {1: MOST - 1, 2: 1}, then={1: MOST}, condition=2, mask=8)
        self.check("1A 12", {1: LEAST + 1, 2: MINUS_1}, then={1: LEAST}, condition=1, mask=8)
        self.check("1A 11", {1: 0x11}, then={1: 0x22}, condition=2)

    def test_1A_too_great(self):
        for mask, number in ((0, 0), (7, 0), (8, 8), (15, 8)):
            self.check("1A 12", {1: MOST, 2: 1}, then={1: LEAST}, condition=3, mask=mask, number=number)
            self.check("1A 12", {1: LEAST, 2: MINUS_1}, then={1: MOST}, condition=3, mask=mask, number=number)
            self.check("1A 11", {1: LEAST}, then={1: 0}, condition=3, mask=mask, number=number)

    def test_1B(self):
        self.check("1B 12", {1: 5, 2: 7}, then={1: 0xFFFFFFFE}, condition=1)
        self.check("1B 12", {1: 7, 2: 5}, then={1: 2}, condition=2)
        self.check("1B 11", {1: LEAST}, then={1: 0}, condition=0, mask=8)
        self.check("1B 12", {1: MINUS_1, 2: LEAST}, then={1: MOST}, condition=2, mask=8)

    def test_1B_too_great(self):
        for mask, number in ((0, 0), (7, 0), (8, 8), (15, 8)):
            self.check("1B 12", {1: LEAST, 2: 1}, then={1: MOST}, condition=3, mask=mask, number=number)
            self.check("1B 12", {1: 0, 2: LEAST}, then={1: LEAST}, condition=3, mask=mask, number=number)

    def test_1E(self):
        self.check("1E 12", {1: 0, 2: 0}, then={1: 0}, condition=0)
        self.check("1E 12", {1: MOST, 2: 1}, then={1: LEAST}, condition=1, mask=15)
        self.check("1E 12", {1: MINUS_1, 2: 0}, then={1: MINUS_1}, condition=1)
        self.check("1E 12", {1: MINUS_1, 2: 1}, then={1: 0}, condition=2)
        self.check("1E 12", {1: MINUS_1, 2: 2}, then={1: 1}, condition=3, mask=15)
        self.check("1E 11", {1: MINUS_1}, then={1: 0xFFFFFFFE}, condition=3)

    def test_1F(self):
        self.check("1F 12", {1: 5, 2: 5}, then={1: 0}, condition=2)
        self.check("1F 12", {1: 6, 2: 5}, then={1: 1}, condition=3, mask=15)
        self.check("1F 12", {1: 5, 2: 6}, then={1: MINUS_1}, condition=1, mask=15)
        self.check("1F 12", {1: 0, 2: 0}, then={1: 0}, condition=2)
        self.check("1F 12", {1: 0, 2: MINUS_1}, then={1: 1}, condition=1)
        self.check("1F 12", {1: LEAST, 2: MOST}, then={1: 1}, condition=3)


class ProductTest(BenchCase):
    def test_1C(self):
        self.check("1C 24", {3: 6, 4: 7}, then={2: 0, 3: 42})
        self.check("1C 24", {3: MINUS_1, 4: 7}, then={2: MINUS_1, 3: 0xFFFFFFF9})
        self.check("1C 24", {3: MINUS_1, 4: MINUS_1}, then={2: 0, 3: 1})
        self.check("1C 24", {3: LEAST, 4: LEAST}, then={2: 0x40000000, 3: 0}, mask=15)
        self.check("1C 24", {3: MOST, 4: LEAST}, then={2: 0xC0000000, 3: LEAST})
        self.check("1C 24", {3: 0x12345678, 4: 0x10000}, then={2: 0x1234, 3: 0x56780000})
        self.check("1C E0", {15: 3, 0: 4}, then={14: 0, 15: 12})

    def test_1C_of_its_own_pair(self):
        self.check("1C 22", {2: 5, 3: 6}, then={2: 0, 3: 30})
        self.check("1C 23", {2: 5, 3: 6}, then={2: 0, 3: 36})

    def test_1C_of_an_odd_pair(self):
        self.check("1C 12", {2: 5}, number=6)
        self.check("1C F2", {2: 5}, number=6)


class QuotientTest(BenchCase):
    def test_1D_of_every_sign(self):
        self.check("1D 24", {2: 0, 3: 17, 4: 5}, then={2: 2, 3: 3})
        self.check("1D 24", {2: MINUS_1, 3: 0xFFFFFFEF, 4: 5}, then={2: 0xFFFFFFFE, 3: 0xFFFFFFFD})
        self.check("1D 24", {2: 0, 3: 17, 4: 0xFFFFFFFB}, then={2: 2, 3: 0xFFFFFFFD})
        self.check("1D 24", {2: MINUS_1, 3: 0xFFFFFFEF, 4: 0xFFFFFFFB}, then={2: 0xFFFFFFFE, 3: 3})
        self.check("1D 24", {2: 0, 3: 0, 4: 0xFFFFFFFB}, then={2: 0, 3: 0})
        self.check("1D 24", {2: MINUS_1, 3: MINUS_1, 4: 1}, then={2: 0, 3: MINUS_1})
        self.check("1D 24", {2: MINUS_1, 3: MINUS_1, 4: MINUS_1}, then={2: 0, 3: 1})
        self.check("1D 24", {2: 0, 3: 1, 4: MINUS_1}, then={2: 0, 3: MINUS_1})
        self.check("1D 24", {2: MINUS_1, 3: 0xFFFFFFFD, 4: 5}, then={2: 0xFFFFFFFD, 3: 0})
        self.check("1D 24", {2: 0x12, 3: 0x34567890, 4: 0x01000000}, then={2: 0x567890, 3: 0x1234})

    def test_1D_of_its_own_pair(self):
        self.check("1D 22", {2: 1, 3: 0}, number=9)
        self.check("1D 22", {2: MINUS_1, 3: 0xFFFFFFFE}, then={2: 0, 3: 2})
        self.check("1D 23", {2: 0, 3: 9}, then={2: 0, 3: 1})

    def test_1D_by_0(self):
        self.check("1D 24", {2: 0, 3: 17, 4: 0}, number=9)
        self.check("1D 24", {2: 0, 3: 0, 4: 0}, number=9)

    def test_1D_with_a_quotient_too_great(self):
        self.check("1D 24", {2: 0, 3: MOST, 4: 1}, then={2: 0, 3: MOST})
        self.check("1D 24", {2: 0, 3: LEAST, 4: 1}, number=9)
        self.check("1D 24", {2: 0, 3: LEAST, 4: MINUS_1}, then={2: 0, 3: LEAST})
        self.check("1D 24", {2: 0, 3: LEAST + 1, 4: MINUS_1}, number=9)
        self.check("1D 24", {2: MINUS_1, 3: LEAST, 4: 1}, then={2: 0, 3: LEAST})
        self.check("1D 24", {2: MINUS_1, 3: LEAST, 4: MINUS_1}, number=9)
        self.check("1D 24", {2: MINUS_1, 3: MOST, 4: 1}, number=9)
        self.check("1D 24", {2: LEAST, 3: 0, 4: MINUS_1}, number=9)
        self.check("1D 24", {2: 1, 3: 0, 4: 2}, number=9)
        self.check("1D 24", {2: 0, 3: MINUS_1, 4: 2}, then={2: 1, 3: MOST})
        self.check("1D 24", {2: 1, 3: 0, 4: 2}, number=9, mask=15)
        self.check("1D 24", {2: MINUS_1, 3: 0, 4: 2}, then={2: 0, 3: LEAST})

    def test_1D_of_an_odd_pair(self):
        self.check("1D 14", {4: 5}, number=6)
        self.check("1D 14", {4: 0}, number=6)


if __name__ == "__main__":
    unittest.main()
