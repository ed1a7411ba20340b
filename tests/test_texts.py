"""Promise 3: the operations on texts, D1 to D7, DC and DD."""

import unittest

from bench_case import BenchCase, memory_with, run

FIRST = 0x100
SECOND = 0x180
TABLE = 0x200


def table_with(entries):
    return "".join(f"{entries.get(at, 0):02X}" for at in range(256))


class MoveTest(BenchCase):
    def both(self, operation, first, second, then=None, **rest):
        size = len(bytes.fromhex(second))
        stored = {} if then is None else {FIRST: then}
        self.check(f"{operation} {size - 1:02X} 0100 0180", data={FIRST: first + "EE", SECOND: second + "DD"},
                   stored=stored, **rest)

    def test_D2(self):
        self.both("D2", "11 22 33", "AA BB CC", "AA BB CC")
        self.both("D2", "11", "AA", "AA")

    def test_D2_of_256_bytes(self):
        text = "".join(f"{(7 * at + 1) % 256:02X}" for at in range(256))
        self.check("D2 FF 0100 0200", data={0x200: text}, stored={0x100: text})

    def test_D2_overlapping(self):
        self.check("D2 03 0101 0100", data={0x100: "5C 01 02 03 04 05"}, stored={0x100: "5C 5C 5C 5C 5C 05"})
        self.check("D2 03 0102 0100", data={0x100: "0A 0B 02 03 04 05"}, stored={0x100: "0A 0B 0A 0B 0A 0B"})
        self.check("D2 03 0100 0101", data={0x100: "5C 01 02 03 04 05"}, stored={0x100: "01 02 03 04 04 05"})
        self.check("D2 03 0100 0100", data={0x100: "5C 01 02 03 04 05"})

    def test_D1(self):
        self.both("D1", "12 34 56", "AB CD EF", "1B 3D 5F")
        self.check("D1 02 0101 0100", data={0x100: "15 26 37 48"}, stored={0x100: "15 25 35 45"})

    def test_D3(self):
        self.both("D3", "12 34 56", "AB CD EF", "A2 C4 E6")
        self.check("D3 02 0101 0100", data={0x100: "15 26 37 48"}, stored={0x100: "15 16 17 18"})

    def test_D4(self):
        self.both("D4", "F3 0F FF", "3F F0 81", "33 00 81", condition=1)
        self.both("D4", "F3 01 00", "81 FE FF", "81 00 00", condition=1)
        self.both("D4", "F0 0F 55", "0F F0 AA", "00 00 00", condition=0)
        self.check("D4 02 0101 0100", data={0x100: "0F F3 FF 01"}, stored={0x100: "0F 03 03 01"}, condition=1)

    def test_D6(self):
        self.both("D6", "F0 00 01", "03 00 80", "F3 00 81", condition=1)
        self.both("D6", "00 00", "00 00", "00 00", condition=0)
        self.both("D6", "00 00 00", "01 00 00", "01 00 00", condition=1)
        self.check("D6 02 0101 0100", data={0x100: "01 02 04 08"}, stored={0x100: "01 03 07 0F"}, condition=1)

    def test_D7(self):
        self.both("D7", "F3 12 FF", "35 12 00", "C6 00 FF", condition=1)
        self.both("D7", "12 34", "12 34", "00 00", condition=0)
        self.check("D7 02 0100 0100", data={0x100: "12 34 56 78"}, stored={0x100: "00 00 00"}, condition=0)
        self.check("D7 02 0101 0100", data={0x100: "01 02 04 08"}, stored={0x100: "01 03 07 0F"}, condition=1)

    def test_D5(self):
        for first, second, condition in (("12 34 56", "12 34 56", 0), ("12 34 55", "12 34 56", 1),
                                         ("12 35 00", "12 34 FF", 2), ("00 FF FF", "80 00 00", 1),
                                         ("80", "7F", 2), ("05", "05", 0)):
            self.both("D5", first, second, condition=condition)

    def test_D5_of_256_bytes(self):
        self.check("D5 FF 0100 0200", data={0x1FF: "01"}, condition=2)
        self.check("D5 FF 0100 0200", data={0x2FF: "01"}, condition=1)
        self.check("D5 FE 0100 0200", data={0x1FF: "01"}, condition=0)
        self.check("D5 FE 0101 0201", data={0x1FF: "01", 0x2FF: "02"}, condition=1)

    def test_outside(self):
        for operation in ("D1", "D2", "D3", "D4", "D5", "D6", "D7"):
            for first, second in ((65534, 0x100), (0x100, 65534), (65536, 0x100), (0x100, 0xFFFFFF), (0xFFFFFE, 0x100)):
                self.check(f"{operation} 02 2000 3000", {2: first, 3: second}, {0x100: "01 02 03"}, number=5)
            outcome = run(memory_with({0: f"{operation} 02 2000 3000"}), {2: 65533, 3: 65533})
            self.assertEqual(outcome.told, [1, 0, 0, 0, 3])
        self.check("D2 02 2000 0100", {2: 65533}, {0x100: "01 02 03"}, stored={65533: "01 02 03"})


class TranslateTest(BenchCase):
    def test_DC(self):
        table = table_with({0: 0x10, 1: 0x11, 0x80: 0x99, 0xFF: 0xAA})
        self.check("DC 04 0100 0200", data={FIRST: "00 01 80 FF 02 01", TABLE: table},
                   stored={FIRST: "10 11 99 AA 00 01"})

    def test_DC_of_256_bytes(self):
        text = "".join(f"{at:02X}" for at in range(256))
        backwards = "".join(f"{255 - at:02X}" for at in range(256))
        self.check("DC FF 0100 0200", data={0x100: text, 0x200: backwards}, stored={0x100: backwards})

    def test_DC_overlapping_the_table(self):
        # The first byte is the entry of 0 too: the second one finds what the first has become.
        self.check("DC 02 0200 0200", data={TABLE: "02 00 05"}, stored={TABLE: "05 05 00"})
        self.check("DC 01 0200 0200", data={TABLE: "01 00 33"}, stored={TABLE: "00 00 33"})

    def test_DD_finds_none(self):
        self.check("DD 02 0100 0200", data={FIRST: "01 02 03 04", TABLE: table_with({4: 9})}, condition=0)

    def test_DD_finds_one(self):
        table = table_with({4: 9, 7: 0xFF, 255: 1})
        self.check("DD 03 0100 0200", {1: 0xABCDEF01, 2: 0x12345678}, {FIRST: "01 04 07 04", TABLE: table},
                   then={1: 0xAB000101, 2: 0x12345609}, condition=1)
        self.check("DD 02 0100 0200", {1: 0xABCDEF01, 2: 0x12345678}, {FIRST: "07 04 04", TABLE: table},
                   then={1: 0xAB000100, 2: 0x123456FF}, condition=1)

    def test_DD_finds_the_last(self):
        table = table_with({4: 9, 255: 1})
        self.check("DD 03 0100 0200", {1: 0xFFFFFFFF, 2: 0}, {FIRST: "01 02 03 04", TABLE: table},
                   then={1: 0xFF000103, 2: 9}, condition=2)
        self.check("DD 00 0100 0200", {1: 0, 2: 0xFFFFFFFF}, {FIRST: "FF", TABLE: table},
                   then={1: 0x100, 2: 0xFFFFFF01}, condition=2)

    def test_DD_leaves_the_higher_bits_alone(self):
        self.check("DD 01 0100 0200", {1: 0x00FFFFFF, 2: 0x000000FF}, {FIRST: "01 04", TABLE: table_with({1: 8})},
                   then={1: 0x100, 2: 8}, condition=1)

    def test_DD_with_its_own_registers_as_places(self):
        self.check("DD 01 1000 2000", {1: 0x100, 2: 0x200}, {FIRST: "05 06", TABLE: table_with({5: 8})},
                   then={1: 0x100, 2: 0x208}, condition=1)

    def test_all_256_bytes_of_the_table_must_be_there(self):
        for operation in ("DC", "DD"):
            for table in (65281, 65535, 65536, 0xFFFF00):
                self.check(f"{operation} 00 0100 3000", {3: table}, number=5)
        self.check("DC 00 0100 3000", {3: 65280}, {0x100: "05"}, stored={0x100: "00"})
        self.check("DD 00 0100 3000", {3: 65280}, {0x100: "05"}, condition=0)

    def test_the_text_outside(self):
        for operation in ("DC", "DD"):
            for first in (65535, 65536, 0xFFFFFF):
                self.check(f"{operation} 01 3000 0200", {3: first}, {TABLE: table_with({0: 1})}, number=5)
        self.check("DC 01 3000 0200", {3: 65534}, {TABLE: table_with({0: 1})}, stored={65534: "01 01"})
        self.check("DD 01 3000 0200", {1: 0, 2: 0, 3: 65534}, {TABLE: table_with({0: 1})},
                   then={1: 65534, 2: 1}, condition=1)


if __name__ == "__main__":
    unittest.main()
