"""Promise 3: the operations on packed numbers, F8 to FD, and F1 to F3."""

import unittest

from bench_case import BenchCase

FIRST = 0x100
SECOND = 0x180


class PackedCase(BenchCase):
    def both(self, operation, first, second, then=None, **rest):
        """The two numbers stand between bytes that must stay."""
        k = len(bytes.fromhex(first)) - 1
        j = len(bytes.fromhex(second)) - 1
        data = {FIRST - 1: "EE" + first + "EE", SECOND - 1: "EE" + second + "EE"}
        stored = {} if then is None else {FIRST: then}
        self.check(f"{operation} {k:X}{j:X} 0100 0180", data=data, stored=stored, **rest)


class SumTest(PackedCase):
    def test_FA(self):
        self.both("FA", "12 3C", "4C", "12 7C", condition=2)
        self.both("FA", "12 3C", "12 3D", "00 0C", condition=0)
        self.both("FA", "12 3D", "12 3C", "00 0C", condition=0)
        self.both("FA", "12 3C", "20 0D", "07 7D", condition=1)
        self.both("FA", "12 3D", "12 3D", "24 6D", condition=1)
        self.both("FA", "00 99 9C", "1C", "01 00 0C", condition=2)
        self.both("FA", "5C", "4C", "9C", condition=2)

    def test_FA_of_a_longer_second(self):
        self.both("FA", "12 3C", "00 00 00 4C", "12 7C", condition=2, mask=15)
        self.both("FA", "5D", "00 00 12 4C", "9C", condition=3)

    def test_FA_of_31_digits(self):
        nines = "99" * 15 + "9C"
        self.both("FA", nines, nines, "99" * 15 + "8C", condition=3)
        self.both("FA", "12 34 56 78 90 12 34 56 78 90 12 34 56 78 90 1C", "1C",
                  "12 34 56 78 90 12 34 56 78 90 12 34 56 78 90 2C", condition=2)

    def test_FA_with_every_sign(self):
        for first in "ACEF":
            for second in "ACEF":
                self.both("FA", f"12 3{first}", f"1{second}", "12 4C", condition=2)
            for second in "BD":
                self.both("FA", f"12 3{first}", f"1{second}", "12 2C", condition=2)
        for first in "BD":
            for second in "BD":
                self.both("FA", f"12 3{first}", f"1{second}", "12 4D", condition=1)

    def test_FA_of_0_with_a_minus(self):
        self.both("FA", "00 0D", "0D", "00 0C", condition=0)
        self.both("FA", "00 0C", "0D", "00 0C", condition=0)
        self.both("FA", "00 0F", "0C", "00 0C", condition=0)

    def test_FA_too_great(self):
        for mask, number in ((0, 0), (11, 0), (4, 10), (15, 10)):
            rest = {"condition": 3, "mask": mask, "number": number}
            self.both("FA", "99 9C", "1C", "00 0C", **rest)
            self.both("FA", "99 9D", "1D", "00 0D", **rest)
            self.both("FA", "99 9C", "99 9C", "99 8C", **rest)
            self.both("FA", "99 9D", "2D", "00 1D", **rest)
            self.both("FA", "5C", "12 30 0D", "5D", **rest)

    def test_FB(self):
        self.both("FB", "12 3C", "4C", "11 9C", condition=2)
        self.both("FB", "12 3C", "12 3C", "00 0C", condition=0)
        self.both("FB", "12 3D", "12 3B", "00 0C", condition=0)
        self.both("FB", "12 3C", "20 0C", "07 7D", condition=1)
        self.both("FB", "12 3D", "7C", "13 0D", condition=1)
        self.both("FB", "12 3A", "7D", "13 0C", condition=2)
        self.both("FB", "00 0D", "0C", "00 0C", condition=0)
        self.both("FB", "00 0C", "0C", "00 0C", condition=0)

    def test_FB_too_great(self):
        for mask, number in ((0, 0), (11, 0), (4, 10)):
            rest = {"condition": 3, "mask": mask, "number": number}
            self.both("FB", "99 9D", "1C", "00 0D", **rest)
            self.both("FB", "99 9C", "1D", "00 0C", **rest)
            self.both("FB", "0C", "12 3C", "3D", **rest)

    def test_F8(self):
        self.both("F8", "00 0C", "12 3C", "12 3C", condition=2)
        self.both("F8", "99 99 9C", "12 3B", "00 12 3D", condition=1)
        self.both("F8", "99 99 9C", "0F", "00 00 0C", condition=0)
        self.both("F8", "99 99 9C", "00 0D", "00 00 0C", condition=0)
        self.both("F8", "9C", "00 00 5E", "5C", condition=2, mask=15)

    def test_F8_s_first_is_not_looked_at(self):
        self.both("F8", "FF FF", "1C", "00 1C", condition=2)
        self.both("F8", "AB 12", "1D", "00 1D", condition=1)

    def test_F8_too_great(self):
        for mask, number in ((0, 0), (11, 0), (4, 10)):
            rest = {"condition": 3, "mask": mask, "number": number}
            self.both("F8", "00", "12 3C", "3C", **rest)
            self.both("F8", "00 00", "12 34 5D", "34 5D", **rest)
            self.both("F8", "00", "10 0C", "0C", **rest)
            self.both("F8", "00", "10 0D", "0D", **rest)

    def test_overlapping(self):
        self.check("FA 10 0100 0101", data={0x100: "12 3C"}, stored={0x100: "12 6C"}, condition=2)
        self.check("FA 11 0100 0100", data={0x100: "12 3D"}, stored={0x100: "24 6D"}, condition=1)
        self.check("FB 11 0100 0100", data={0x100: "12 3D"}, stored={0x100: "00 0C"}, condition=0)
        self.check("F8 11 0101 0100", data={0x100: "12 3C 77"}, stored={0x101: "12 3C"}, condition=2)
        self.check("F8 21 0100 0101", data={0x100: "FF 12 3D"}, stored={0x100: "00 12 3D"}, condition=1)
        self.check("FA 01 0101 0100", data={0x100: "12 3C"}, stored={0x101: "6C"}, condition=3)


class CompareTest(PackedCase):
    def test_F9(self):
        for first, second, condition in (("12 3C", "12 3C", 0), ("12 3C", "12 4C", 1), ("12 4C", "12 3C", 2),
                                         ("12 3D", "12 3C", 1), ("12 3C", "12 3D", 2), ("12 3D", "12 4D", 2),
                                         ("12 4B", "12 3D", 1), ("00 0C", "0D", 0), ("0D", "00 0C", 0),
                                         ("5C", "00 00 5F", 0), ("5C", "12 34 5C", 1), ("12 34 5A", "5C", 2),
                                         ("5D", "12 34 5D", 2)):
            self.both("F9", first, second, condition=condition, mask=15)


class ProductTest(PackedCase):
    def test_FC(self):
        self.both("FC", "00 12 3C", "4C", "00 49 2C")
        self.both("FC", "00 99 9C", "9C", "08 99 1C", mask=15)
        self.both("FC", "00 00 00 09 99 9C", "99 9C", "00 00 99 89 00 1C")
        self.both("FC", "00 00 99 9D", "99 9D", "09 98 00 1C")
        self.both("FC", "00" * 8 + "99" * 7 + "9C", "99" * 7 + "9C",
                  f"{999999999999999 ** 2:031d}C")

    def test_FC_s_sign(self):
        for first, second, sign in (("C", "C", "C"), ("D", "C", "D"), ("C", "D", "D"), ("D", "D", "C"),
                                    ("B", "F", "D"), ("A", "E", "C"), ("E", "B", "D"), ("B", "D", "C")):
            self.both("FC", f"00 12 3{first}", f"4{second}", f"00 49 2{sign}")

    def test_FC_s_sign_of_0(self):
        self.both("FC", "00 00 0C", "4D", "00 00 0D")
        self.both("FC", "00 00 0D", "4C", "00 00 0D")
        self.both("FC", "00 12 3D", "0C", "00 00 0D")
        self.both("FC", "00 12 3D", "0D", "00 00 0C")
        self.both("FC", "00 00 0F", "0A", "00 00 0C")

    def test_FC_s_lengths(self):
        self.both("FC", "0C", "1C", number=6)
        self.both("FC", "00 1C", "00 1C", number=6)
        self.both("FC", "00 1C", "00 00 1C", number=6)
        self.both("FC", "00" * 15 + "1C", "00" * 8 + "1C", number=6)
        self.both("FC", "00" * 15 + "1C", "00" * 15 + "1C", number=6)
        self.both("FC", "00" * 15 + "2C", "00" * 7 + "3C", "00" * 15 + "6C")
        self.both("FC", "00" * 8 + "2C", "00" * 7 + "3C", "00" * 8 + "6C")

    def test_FC_wants_zeros(self):
        self.both("FC", "01 12 3C", "1C", number=7)
        self.both("FC", "10 00 0C", "1C", number=7)
        self.both("FC", "00 01 12 3C", "00 1C", number=7)
        self.both("FC", "00 00 12 3C", "00 1C", "00 00 12 3C")
        self.both("FC", "10 00 0C", "0C", number=7)


class QuotientTest(PackedCase):
    def test_FD(self):
        self.both("FD", "00 12 3C", "4C", "03 0C 3C")
        self.both("FD", "00 12 34 5C", "12 3C", "10 0C 04 5C")
        self.both("FD", "00 00 00 0C", "12 3C", "00 0C 00 0C")
        self.both("FD", "01 23 45 67 8C", "98 7C", "12 50 8C 28 2C")

    def test_FD_of_every_sign(self):
        for first, second, quotient, rest in (("C", "C", "C", "C"), ("D", "C", "D", "D"), ("C", "D", "D", "C"),
                                              ("D", "D", "C", "D"), ("B", "F", "D", "D"), ("A", "B", "D", "C")):
            self.both("FD", f"00 12 3{first}", f"4{second}", f"03 0{quotient} 3{rest}")

    def test_FD_s_signs_of_0(self):
        self.both("FD", "00 00 3D", "4C", "00 0D 3D")
        self.both("FD", "00 00 3C", "4D", "00 0D 3C")
        self.both("FD", "00 00 3D", "4D", "00 0C 3D")
        self.both("FD", "00 00 8D", "4C", "00 2D 0D")
        self.both("FD", "00 00 0D", "4C", "00 0D 0D")
        self.both("FD", "00 00 0D", "4D", "00 0C 0D")

    def test_FD_by_0(self):
        self.both("FD", "00 12 3C", "0C", number=11)
        self.both("FD", "00 00 0C", "0D", number=11)
        self.both("FD", "00 00 12 3C", "00 0C", number=11)

    def test_FD_s_quotient_without_room(self):
        self.both("FD", "00 9C", "1C", "9C 0C")
        self.both("FD", "01 0C", "1C", number=11)
        self.both("FD", "01 9C", "2C", "9C 1C")
        self.both("FD", "02 0D", "2C", number=11, mask=15)
        self.both("FD", "99 9C", "9C", number=11)
        self.both("FD", "09 99 9C", "1C", number=11)
        self.both("FD", "00 99 9C", "1C", "99 9C 0C")
        self.both("FD", "01 00 0C", "1C", number=11)

    def test_FD_of_31_digits(self):
        dividend = 123456789012345678901234567890
        divisor = 987654321098765
        self.both("FD", f"{dividend:031d}C", f"{divisor:015d}D",
                  f"{dividend // divisor:015d}D" + f"{dividend % divisor:015d}C")
        self.both("FD", f"{divisor * 10 ** 15:031d}C", f"{divisor:015d}D", number=11)
        self.both("FD", f"{divisor * 10 ** 15 - 1:031d}C", f"{divisor:015d}C", "99" * 7 + f"9C{divisor - 1:015d}C")

    def test_FD_s_lengths(self):
        self.both("FD", "0C", "1C", number=6)
        self.both("FD", "00 1C", "00 1C", number=6)
        self.both("FD", "00 1C", "00 00 1C", number=6)
        self.both("FD", "00" * 15 + "1C", "00" * 8 + "1C", number=6)
        self.both("FD", "00" * 15 + "7C", "00" * 7 + "3C", "00" * 7 + "2C" + "00" * 7 + "1C")
        self.both("FD", "00" * 8 + "7C", "00" * 7 + "3C", "2C" + "00" * 7 + "1C")


class NoNumberTest(PackedCase):
    def test_no_digits_or_sign(self):
        for operation in ("F9", "FA", "FB", "FC", "FD"):
            for wrong in ("00 00 A0 1C", "00 00 0A 1C", "00 00 00 AC", "00 00 00 10", "00 00 00 19",
                          "F0 F0 F0 F1"):
                self.both(operation, wrong, "00 1C", number=7)
        for operation in ("F8", "F9", "FA", "FB", "FC", "FD"):
            for wrong in ("A0 1C", "0B 1C", "00 CC", "00 10", "00 19", "FF FF"):
                self.both(operation, "00 00 00 1C", wrong, number=7)
            self.both(operation, "00 00 00 1C", "12", number=7)

    def test_no_number_is_told_ahead_of_a_quotient(self):
        self.both("FD", "00 00 00 11", "00 0C", number=7)
        self.both("FD", "A0 00 00 1C", "00 1C", number=7)
        self.both("FD", "99 99 99 9C", "00 11", number=7)


class OutsideTest(BenchCase):
    def test_outside(self):
        for operation in ("F1", "F2", "F3", "F8", "F9", "FA", "FB", "FC", "FD"):
            for first, second in ((65534, 0x180), (0x100, 65535), (65536, 0x180), (0x100, 65536), (0xFFFFFF, 0xFFFFFF)):
                self.check(f"{operation} 21 2000 3000", {2: first, 3: second}, {0x100: "00 00 1C", 0x180: "00 1C"},
                           number=5)

    def test_outside_is_told_ahead_of_no_digits(self):
        for operation in ("F9", "FA", "FB", "FC", "FD"):
            self.check(f"{operation} 21 0100 2000", {2: 65535}, {0x100: "FF FF FF"}, number=5)
            self.check(f"{operation} 21 2000 0100", {2: 65535}, {0x100: "FF FF FF"}, number=5)
        self.check("F8 21 2000 0100", {2: 65534}, {0x100: "FF FF"}, number=5)

    def test_lengths_are_told_ahead_of_outside(self):
        for operation in ("FC", "FD"):
            self.check(f"{operation} 11 2000 2000", {2: 65536}, number=6)

    def test_the_end_of_memory(self):
        self.check("F8 10 2000 0180", {2: 65534}, {0x180: "7D"}, stored={65534: "00 7D"}, condition=1)
        self.check("F3 10 2000 0180", {2: 65534}, {0x180: "7D"}, stored={65534: "F0 D7"})
        self.check("F2 01 0180 2000", {2: 65534}, {0x180: "77"}, stored={0x180: "00"})


class HalvesTest(PackedCase):
    def test_F1(self):
        self.both("F1", "77 88 9C", "12 34", "01 23 4C")
        self.both("F1", "77 88 9C", "12 34 56", "23 45 6C")
        self.both("F1", "77 88 9C", "AB CD EF 12", "DE F1 2C")
        self.both("F1", "9C", "34", "4C")
        self.both("F1", "77 81", "12 30", "23 01")
        self.both("F1", "77 88 99 9C", "5F", "00 00 05 FC")

    def test_F1_overlapping(self):
        self.check("F1 22 0100 0100", data={0x100: "12 34 5C"}, stored={0x100: "23 45 CC"})
        self.check("F1 21 0100 0101", data={0x100: "12 34 5C"}, stored={0x100: "03 45 CC"})
        self.check("F1 22 0101 0100", data={0x100: "12 34 56 78"}, stored={0x101: "23 45 68"})

    def test_F2(self):
        self.both("F2", "77 88 99", "F1 F2 F3 F4 C5", "12 34 5C")
        self.both("F2", "77 88 99", "F1 F2 D3", "00 12 3D")
        self.both("F2", "77 88", "F1 F2 F3 F4 C5", "34 5C")
        self.both("F2", "77", "C5", "5C")
        self.both("F2", "77 88", "5C", "00 C5")
        self.both("F2", "77", "F4 C5", "5C")
        self.both("F2", "77 88", "AB CD EF", "BD FE")

    def test_F2_overlapping(self):
        self.check("F2 33 0100 0100", data={0x100: "F1 F2 F3 C4"}, stored={0x100: "00 01 23 4C"})
        self.check("F2 32 0100 0100", data={0x100: "F1 F2 C3 99"}, stored={0x100: "00 00 12 3C"})
        self.check("F2 22 0101 0100", data={0x100: "F1 F2 C3 99"}, stored={0x101: "00 12 3C"})
        self.check("F2 12 0100 0100", data={0x100: "F1 F2 C3"}, stored={0x100: "12 3C"})

    def test_F3(self):
        self.both("F3", "00 00 00", "12 3C", "F1 F2 C3")
        self.both("F3", "00 00 00 00 00", "12 3D", "F0 F0 F1 F2 D3")
        self.both("F3", "00 00", "12 34 5C", "F4 C5")
        self.both("F3", "00", "12 34 5C", "C5")
        self.both("F3", "00 00 00", "AB CD", "FA FB DC")
        self.both("F3", "00 00", "5C", "F0 C5")
        self.both("F3", "00" * 16, "12 34", "F0" * 13 + "F1 F2 43")

    def test_F3_overlapping(self):
        self.check("F3 42 0100 0102", data={0x100: "00 00 12 34 5C"}, stored={0x100: "F1 F2 F3 F4 C5"})
        self.check("F3 42 0100 0100", data={0x100: "12 34 5C 00 00"}, stored={0x100: "F1 F2 F3 F4 C5"})
        self.check("F3 20 0100 0102", data={0x100: "00 00 5C"}, stored={0x100: "F0 F0 C5"})


if __name__ == "__main__":
    unittest.main()
