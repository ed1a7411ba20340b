"""Promise 3: the operations on one byte, 91 to 97."""

import unittest

from bench_case import BenchCase


class OneByteTest(BenchCase):
    def both(self, operation, there, given, then=None, **rest):
        stored = {} if then is None else {0x101: f"{then:02X}"}
        self.check(f"{operation} {given:02X} 0101", data={0x100: f"FF {there:02X} FF"}, stored=stored, **rest)

    def test_91(self):
        for there, given, condition in ((0x0F, 0xF0, 0), (0xFF, 0x00, 0), (0x00, 0x00, 0), (0x00, 0xFF, 0),
                                        (0xF1, 0x81, 3), (0xFF, 0xFF, 3), (0x01, 0x01, 3), (0x80, 0x81, 1),
                                        (0x7F, 0xFF, 1)):
            self.both("91", there, given, condition=condition)

    def test_92(self):
        self.both("92", 0x12, 0xA5, 0xA5)
        self.both("92", 0x12, 0x00, 0x00)

    def test_94(self):
        self.both("94", 0xF3, 0x3F, 0x33, condition=1)
        self.both("94", 0xF0, 0x0F, 0x00, condition=0)

    def test_95(self):
        for there, given, condition in ((5, 5, 0), (4, 5, 1), (6, 5, 2), (0x80, 0x7F, 2), (0x7F, 0x80, 1), (0, 0xFF, 1)):
            self.both("95", there, given, condition=condition)

    def test_96(self):
        self.both("96", 0xF0, 0x13, 0xF3, condition=1)
        self.both("96", 0x00, 0x00, 0x00, condition=0)

    def test_97(self):
        self.both("97", 0xF3, 0x35, 0xC6, condition=1)
        self.both("97", 0xF3, 0xF3, 0x00, condition=0)

    def test_the_end_of_memory(self):
        self.check("92 77 2000", {2: 65535}, stored={65535: "77"})
        for operation in ("91", "92", "94", "95", "96", "97"):
            for place in (65536, 0xFFFFFF):
                self.check(f"{operation} 77 2000", {2: place}, number=5)


if __name__ == "__main__":
    unittest.main()
