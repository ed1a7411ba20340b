"""Promise 3: the operations on two registers and a place, 86 to 90 and 98."""

import unittest

from bench_case import BenchCase, filler

LEAST = 0x80000000
MOST = 0x7FFFFFFF
MINUS_1 = 0xFFFFFFFF


def each_word(first, last):
    return " ".join(f"{filler(which):08X}" for which in range(first, last + 1))


class JumpTest(BenchCase):
    def pair(self, code, given, then, above):
        """86 jumps where the sum is above, 87 where it isn't."""
        self.check(f"86 {code}", given, then=then, following=0x300 if above else 4)
        self.check(f"87 {code}", given, then=then, following=4 if above else 0x300)

    def test_an_even_j(self):
        self.pair("14 0300", {1: 5, 4: 2, 5: 7}, {1: 7}, False)
        self.pair("14 0300", {1: 5, 4: 2, 5: 6}, {1: 7}, True)
        self.pair("14 0300", {1: 5, 4: 2, 5: 8}, {1: 7}, False)
        self.pair("10 0300", {1: 5, 0: 2}, {1: 7}, True)
        self.pair("3E 0300", {3: 5, 14: 0xFFFFFFFE, 15: 3}, {3: 3}, False)

    def test_an_odd_j(self):
        self.pair("15 0300", {1: 5, 5: 7, 6: 0x1000}, {1: 12}, True)
        self.pair("15 0300", {1: 0, 5: 7}, {1: 7}, False)
        self.pair("15 0300", {1: MINUS_1, 5: 7}, {1: 6}, False)
        self.pair("1F 0300", {1: 1, 15: MINUS_1}, {1: 0}, True)

    def test_with_signs(self):
        self.pair("14 0300", {1: MINUS_1, 4: MINUS_1, 5: 0}, {1: 0xFFFFFFFE}, False)
        self.pair("14 0300", {1: 1, 4: 0, 5: MINUS_1}, {1: 1}, True)
        self.pair("14 0300", {1: MOST, 4: 1, 5: 0}, {1: LEAST}, False)
        self.pair("14 0300", {1: LEAST, 4: MINUS_1, 5: 0}, {1: MOST}, True)

    def test_too_great_is_nothing(self):
        self.check("86 14 0300", {1: MOST, 4: 1, 5: 0}, then={1: LEAST}, mask=15)
        self.check("87 14 0300", {1: MOST, 4: 1, 5: 0}, then={1: LEAST}, mask=15, following=0x300)

    def test_what_is_compared_is_as_it_was(self):
        self.pair("54 0300", {5: 10, 4: 3}, {5: 13}, True)
        self.pair("54 0300", {5: 10, 4: MINUS_1}, {5: 9}, False)
        self.pair("55 0300", {5: 10}, {5: 20}, True)
        self.pair("44 0300", {4: 10, 5: 20}, {4: 20}, False)

    def test_the_place_is_as_it_was(self):
        self.check("86 14 1000", {1: 0x300, 4: 2, 5: 0}, then={1: 0x302}, following=0x300)
        self.check("87 14 1001", {1: 0x300, 4: 2, 5: 0x302}, then={1: 0x302}, following=0x301)
        self.check("86 14 2000", {1: 1, 4: 2, 5: 0, 2: 0xFFFFFFFF}, then={1: 3}, following=0xFFFFFF)


class ManyTest(BenchCase):
    def test_90(self):
        self.check("90 24 0200", stored={0x200: each_word(2, 4)})
        self.check("90 77 0200", {7: 0x01020304}, stored={0x200: "01020304"})
        self.check("90 0F 0204", stored={0x204: each_word(0, 15)})

    def test_90_round_after_15(self):
        self.check("90 E1 0200", stored={0x200: each_word(14, 15) + each_word(0, 1)})
        self.check("90 10 0200", stored={0x200: each_word(1, 15) + each_word(0, 0)})

    def test_98(self):
        self.check("98 24 0200", data={0x200: "00000001 80000002 FFFFFFFF 12345678"},
                   then={2: 1, 3: 0x80000002, 4: MINUS_1})
        self.check("98 77 0200", data={0x200: "01020304 05060708"}, then={7: 0x01020304})
        self.check("98 0F 0200", data={0x200: "".join(f"{which + 1:08X}" for which in range(16))},
                   then={which: which + 1 for which in range(16)})

    def test_98_round_after_15(self):
        self.check("98 E1 0200", data={0x200: "00000001 00000002 00000003 00000004 00000005"},
                   then={14: 1, 15: 2, 0: 3, 1: 4})
        self.check("98 54 0200", data={0x200: "".join(f"{at:08X}" for at in range(16))},
                   then={(5 + at) % 16: at for at in range(16)})

    def test_the_place_is_as_it_was(self):
        self.check("98 13 2000", {2: 0x200}, {0x200: "00000001 00000002 00000003"}, then={1: 1, 2: 2, 3: 3})

    def test_multiples(self):
        for operation in ("90", "98"):
            for place in (0x201, 0x202, 0x203, 65534, 65537):
                self.check(f"{operation} 24 3000", {3: place}, number=6)

    def test_outside(self):
        for operation in ("90", "98"):
            for place in (65528, 65532, 65536, 0xFFFFFC):
                self.check(f"{operation} 24 3000", {3: place}, number=5)
        self.check("90 24 3000", {3: 65524}, stored={65524: f"{filler(2):08X} {65524:08X} {filler(4):08X}"})
        self.check("98 24 3000", {3: 65524}, then={2: 0, 3: 0, 4: 0})
        self.check("90 10 3000", {3: 65476}, number=5)
        self.check("98 10 3000", {3: 65476}, number=5)
        self.check("98 10 3000", {3: 65472}, then={which: 0 for which in range(16)})


class ShiftTest(BenchCase):
    def shift(self, operation, before, count, after, **rest):
        self.check(f"{operation} 1F 0{count:03X}", {1: before}, then={1: after}, **rest)
        self.check(f"{operation} 10 2FC0", {1: before, 2: 0x80000040 + count}, then={1: after}, **rest)

    def test_88(self):
        self.shift("88", 0x87654321, 0, 0x87654321)
        self.shift("88", 0x87654321, 4, 0x08765432)
        self.shift("88", 0x87654321, 31, 1)
        self.shift("88", 0x87654321, 32, 0)
        self.shift("88", 0x87654321, 63, 0)

    def test_89(self):
        self.shift("89", 0x87654321, 0, 0x87654321)
        self.shift("89", 0x87654321, 4, 0x76543210, mask=8)
        self.shift("89", 0x87654321, 31, 0x80000000)
        self.shift("89", 0x87654321, 32, 0)
        self.shift("89", 0x87654321, 63, 0)

    def test_8A(self):
        self.shift("8A", 0x87654321, 0, 0x87654321, condition=1)
        self.shift("8A", 0x87654321, 4, 0xF8765432, condition=1)
        self.shift("8A", 0x87654321, 31, MINUS_1, condition=1)
        self.shift("8A", 0x87654321, 32, MINUS_1, condition=1)
        self.shift("8A", 0x87654321, 63, MINUS_1, condition=1)
        self.shift("8A", 0x47654321, 4, 0x04765432, condition=2)
        self.shift("8A", 0x47654321, 30, 1, condition=2)
        self.shift("8A", 0x47654321, 31, 0, condition=0)
        self.shift("8A", 0x47654321, 63, 0, condition=0)
        self.shift("8A", 0, 0, 0, condition=0)

    def test_8B(self):
        self.shift("8B", 0x87654321, 0, 0x87654321, condition=1, mask=8)
        self.shift("8B", 0x00054321, 4, 0x00543210, condition=2, mask=8)
        self.shift("8B", 0xFFF54321, 4, 0xFF543210, condition=1, mask=8)
        self.shift("8B", 0, 63, 0, condition=0, mask=8)
        self.shift("8B", 1, 30, 0x40000000, condition=2, mask=8)
        self.shift("8B", MINUS_1, 31, LEAST, condition=1, mask=8)
        self.shift("8B", MINUS_1, 30, 0xC0000000, condition=1, mask=8)

    def test_8B_too_great(self):
        for mask, number in ((0, 0), (7, 0), (8, 8)):
            rest = {"condition": 3, "mask": mask, "number": number}
            self.shift("8B", 0x40000001, 1, 2, **rest)
            self.shift("8B", 0xBFFFFFFF, 1, 0xFFFFFFFE, **rest)
            self.shift("8B", 1, 31, 0, **rest)
            self.shift("8B", 1, 32, 0, **rest)
            self.shift("8B", 1, 63, 0, **rest)
            self.shift("8B", LEAST, 1, LEAST, **rest)
            self.shift("8B", MINUS_1, 32, LEAST, **rest)
            self.shift("8B", MINUS_1, 63, LEAST, **rest)
            self.shift("8B", 0x12345678, 8, 0x34567800, **rest)
            self.shift("8B", 0x87654321, 4, 0xF6543210, **rest)


class PairShiftTest(BenchCase):
    def shift(self, operation, before, count, after, **rest):
        given = {2: before >> 32, 3: before & MINUS_1}
        then = {2: after >> 32, 3: after & MINUS_1}
        self.check(f"{operation} 20 0{count:03X}", given, then=then, **rest)
        self.check(f"{operation} 2F 4001", {**given, 4: 0xFFFFFFFF + count & MINUS_1}, then=then, **rest)

    def test_8C(self):
        self.shift("8C", 0x87654321_0FEDCBA9, 0, 0x87654321_0FEDCBA9)
        self.shift("8C", 0x87654321_0FEDCBA9, 4, 0x08765432_10FEDCBA)
        self.shift("8C", 0x87654321_0FEDCBA9, 31, 0x00000001_0ECA8642)
        self.shift("8C", 0x87654321_0FEDCBA9, 32, 0x00000000_87654321)
        self.shift("8C", 0x87654321_0FEDCBA9, 63, 1)

    def test_8D(self):
        self.shift("8D", 0x87654321_0FEDCBA9, 0, 0x87654321_0FEDCBA9)
        self.shift("8D", 0x87654321_0FEDCBA9, 4, 0x76543210_FEDCBA90, mask=8)
        self.shift("8D", 0x87654321_0FEDCBA9, 31, 0x87F6E5D4_80000000)
        self.shift("8D", 0x87654321_0FEDCBA9, 32, 0x0FEDCBA9_00000000)
        self.shift("8D", 0x87654321_0FEDCBA9, 63, 0x80000000_00000000)

    def test_8E(self):
        self.shift("8E", 0x87654321_0FEDCBA9, 0, 0x87654321_0FEDCBA9, condition=1)
        self.shift("8E", 0x87654321_0FEDCBA9, 4, 0xF8765432_10FEDCBA, condition=1)
        self.shift("8E", 0x87654321_0FEDCBA9, 32, 0xFFFFFFFF_87654321, condition=1)
        self.shift("8E", 0x87654321_0FEDCBA9, 63, 0xFFFFFFFF_FFFFFFFF, condition=1)
        self.shift("8E", 0x47654321_0FEDCBA9, 31, 0x00000000_8ECA8642, condition=2)
        self.shift("8E", 0x47654321_0FEDCBA9, 62, 1, condition=2)
        self.shift("8E", 0x47654321_0FEDCBA9, 63, 0, condition=0)
        self.shift("8E", 0x00000000_80000000, 0, 0x00000000_80000000, condition=2)
        self.shift("8E", 0x80000000_00000000, 0, 0x80000000_00000000, condition=1)

    def test_8F(self):
        self.shift("8F", 0x87654321_0FEDCBA9, 0, 0x87654321_0FEDCBA9, condition=1, mask=8)
        self.shift("8F", 0x00000000_87654321, 4, 0x00000008_76543210, condition=2, mask=8)
        self.shift("8F", 0xFFFFFFFF_87654321, 4, 0xFFFFFFF8_76543210, condition=1, mask=8)
        self.shift("8F", 0, 63, 0, condition=0, mask=8)
        self.shift("8F", 1, 62, 0x40000000_00000000, condition=2, mask=8)
        self.shift("8F", 0xFFFFFFFF_FFFFFFFF, 63, 0x80000000_00000000, condition=1, mask=8)
        self.shift("8F", 1, 32, 0x00000001_00000000, condition=2, mask=8)

    def test_8F_too_great(self):
        for mask, number in ((0, 0), (7, 0), (8, 8)):
            rest = {"condition": 3, "mask": mask, "number": number}
            self.shift("8F", 0x40000000_00000001, 1, 2, **rest)
            self.shift("8F", 0xBFFFFFFF_FFFFFFFF, 1, 0xFFFFFFFF_FFFFFFFE, **rest)
            self.shift("8F", 1, 63, 0, **rest)
            self.shift("8F", 0x80000000_00000000, 1, 0x80000000_00000000, **rest)
            self.shift("8F", 0x87654321_0FEDCBA9, 31, 0x87F6E5D4_80000000, **rest)
            self.shift("8F", 0x87654321_0FEDCBA9, 32, 0x8FEDCBA9_00000000, **rest)

    def test_an_odd_k(self):
        for operation in ("8C", "8D", "8E", "8F"):
            for k in "13F":
                self.check(f"{operation} {k}0 0001", number=6)
        self.check("8C E0 0020", {14: 5, 15: 6}, then={14: 0, 15: 5})

    def test_a_place_of_a_shift_is_no_place(self):
        self.check("88 10 2000", {1: 4, 2: 0xFFFFC1}, then={1: 2})
        self.check("8D 20 4000", {2: 0, 3: 1, 4: 0xFF0001}, then={3: 2})


if __name__ == "__main__":
    unittest.main()
