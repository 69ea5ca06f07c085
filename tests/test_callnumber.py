"""What is a call number and what is none, which are the same, and their order."""

import itertools
import random
import unittest

from shelvesorder.callnumber import read_call_number
from tests.helper import ask, book, drop, expected_number, last, shelf


def is_call_number(code):
    """Seen through drop: -2 tells a call number that no book has, -71 none."""
    answer = last(drop(code))
    if answer not in (-2, -71):
        raise AssertionError(f"drop answered {answer}")
    return answer == -2


def compare(one, other):
    """-1, 0 or 1, seen through book: 1 mm stands on the first shelf, 2 mm fit the second alone."""
    answer = last(shelf(1), shelf(2), book(1, one), book(2, other))
    return {0: -1, -17: 0, -33: 1}[answer]


class Told(unittest.TestCase):
    def check(self, codes, expected):
        for code in codes:
            with self.subTest(code=code):
                self.assertEqual(is_call_number(code), expected)

    def good(self, *codes):
        self.check(codes, True)

    def bad(self, *codes):
        self.check(codes, False)

    def test_class(self):
        self.good("A1", "AB1", "ABC1", "A12", "A123", "A1234", "a1", "z9", "Z9999", "A10", "A1000", "abC70")
        self.bad("1", "A", "ABC", "ABCD1", "A12345", "A0", "A01", "A0.1", "1A", "A1A", "A-1", "A+1")
        self.bad("@1", "[1", "`1", "{1", "A/", "A:", "A1/", "A1:", "A1_0")

    def test_digits_behind_the_full_stop(self):
        self.good("A1.1", "A1.12", "A1.123", "A1.1234", "A1.01", "A1.0001", "A1.9", "ABC1234.5678")
        self.bad("A1.", "A1.0", "A1.10", "A1.1230", "A1.12345", "A1..1", "A1.1.", "A1.1.1", "A1.a")
        self.bad("A.1", ".A1", "A1 .1", "A1. 1")

    def test_parts(self):
        self.good("A1 B1", "A1 .B1", "A1 b12345", "A1 .b00001", "A1 B01", "A1 c2")
        self.good("A1 B1 C2", "A1 .B1 C2 .D3", "A1 B1 B1 B1")
        self.bad("A1 B", "A1 .B", "A1 .", "A1 ..B1", "A1 B0", "A1 B10", "A1 B123456", "A1 B1.")
        self.bad("A1 BC1", "A1 B1C", "A1 B.1")
        self.bad("A1 B1 C1 D1 E1", "A1 B1 C1 D1 .E1", "A1.B1", "A1B1", "A1 .B1.C1", "A1 . B1", "A1 B 1", "B1 .1B")

    def test_year(self):
        self.good("A1 1000", "A1 1999", "A1 9999", "A1 B1 2000", "A1 .B1 C1 D1 2024")
        self.bad("A1 0999", "A1 0000", "A1 999", "A1 10000", "A1 1", "A1 1999 2000")
        self.bad("A1 199a", "A1 1999b", "A1 -999", "A1 .1999")

    def test_copy(self):
        self.good("A1 c.2", "A1 C.2", "A1 c.9", "A1 c.10", "A1 c.20", "A1 c.99")
        self.good("A1 1999 c.3", "A1 B1 c.3", "A1 B1 C1 D1 1999 c.99")
        self.bad("A1 c.1", "A1 c.0", "A1 c.02", "A1 c.00", "A1 c.100", "A1 c.", "A1 c")
        self.bad("A1 .c.2", "A1 b.2", "A1 d.2", "A1 c 2", "c.2", "A1c.2")
        self.bad("A1 c..2", "A1 c.2 c.3", "A1 cc.2", "A1 c.2.", "A1 c.a", "A1 c. 2", "A1 c,2", "A1 c.2a")

    def test_words_in_the_wrong_order(self):
        self.bad("B1. A1", ".B1 A1", "1999 A1", "c.2 A1", "A1 1999 B1", "A1 c.2 B1", "A1 c.2 1999", "A1 B1 c.2 1999")
        self.bad("A1 B1 1999 C1", "A1 B1 C1 D1 c.2 1999")

    def test_blanks(self):
        self.good(" A1", "A1 ", "   A1   ", "A1   B1", "  A1  .B1   C1  D1  1999   c.2  ")
        self.bad("A 1", "A1 B 1", "A1 19 99", "A1 c .2", "A1. 5", "A1 .5")

    def test_nothing(self):
        self.bad("", " ", "     ", " " * 60, " " * 61, " " * 300)

    def test_length(self):
        for code in ("A1", "A1 .B1 C1 D1 1999 c.2", "ABC1234.5678 .A12345 .B12345 .C12345 1999 c.99"):
            self.good(code.ljust(59), code.ljust(60), code.rjust(60), code.replace(" ", " " * (61 - len(code)), 1)[:60])
            self.bad(code.ljust(61), code.rjust(61), code.ljust(300), code.rjust(300), code + "1" * 254)

    def test_bytes_that_belong_to_no_word(self):
        kept = set(b" .0123456789abcdefghijklmnopqrstuvwxyzABCDEFGHIJKLMNOPQRSTUVWXYZ")
        for byte in range(256):
            if byte in kept:
                continue
            strange = bytes([byte])
            with self.subTest(byte=byte):
                self.bad(strange, strange + b"A1", b"A1" + strange, b"A1" + strange + b"B1", b"A1 " + strange)
                self.bad(b"A" + strange, b"A1." + strange, b"A1 B" + strange, b"A1 199" + strange)
                self.bad(b"A1 c." + strange, b"A1 c" + strange + b"2")

    def test_every_byte_in_every_place(self):
        for whole in (b"aZ10.05 .b09 Q1 1990 c.20", b"Q1 x01 c.9", b"aZ10.05 .bQ09 1990 c.20"):
            for place, byte in itertools.product(range(len(whole)), range(256)):
                changed = whole[:place] + bytes([byte]) + whole[place + 1:]
                expected = expected_number(changed) is not None
                self.assertEqual(read_call_number(list(changed)) is not None, expected, changed)

    def test_all_short_ones(self):
        for size in range(6):
            for letters in itertools.product(b"A1c. 0", repeat=size):
                expected = expected_number(letters) is not None
                self.assertEqual(read_call_number(list(letters)) is not None, expected, letters)
                behind = b"A1 " + bytes(letters)
                expected = expected_number(behind) is not None
                self.assertEqual(read_call_number(list(behind)) is not None, expected, behind)


class Same(unittest.TestCase):
    def test_written_otherwise(self):
        for one, other in (
            ("qa76.9 .b12 c3 1999 c.2", "QA76.9 B12 .C3 1999 C.2"),
            ("a1", "A1"),
            (" A1 ", "A1"),
            ("A1    B1", "A1 B1"),
            ("A1 B1", "A1 .B1"),
            ("A1 b1", "A1 .B1"),
            ("A1 c.2", "A1  C.2"),
        ):
            with self.subTest(one=one, other=other):
                self.assertEqual(compare(one, other), 0)
                self.assertEqual(compare(other, one), 0)

    def test_not_the_same(self):
        for one, other in (
            ("A1", "A10"),
            ("A1", "A1.1"),
            ("A1.1", "A1.01"),
            ("A1 B1", "A1 B01"),
            ("A1 C2", "A1 c.2"),
            ("A1 B1", "A1 B1 B1"),
        ):
            with self.subTest(one=one, other=other):
                self.assertEqual(ask(shelf(9), book(1, one), book(1, other)), [0, 0, 0])


class Order(unittest.TestCase):
    def rising(self, *codes):
        for (k, one), (m, other) in itertools.product(enumerate(codes), repeat=2):
            with self.subTest(one=one, other=other):
                self.assertEqual(compare(one, other), (k > m) - (k < m))

    def test_letters(self):
        self.rising("A9", "aa9", "AAA1", "Aab1", "AB1", "b1", "BA1", "Z1", "za1", "ZZZ1")

    def test_number(self):
        self.rising("A1", "A2", "A9", "A10", "A11", "A99", "A100", "A1000", "A9999", "B1")

    def test_digits_behind_the_full_stop(self):
        self.rising("A1", "A1.0001", "A1.01", "A1.1", "A1.11", "A1.1234", "A1.2", "A1.9", "A1.91", "A2", "A10.1")

    def test_parts(self):
        self.rising("A1", "A1 B00001", "A1 .B1", "A1 B11", "A1 .b12", "A1 b2", "A1 .B9", "A1 C1", "A1.1")

    def test_second_and_third_parts(self):
        self.rising(
            "A1 B1", "A1 B1 A1", "A1 B1 B1", "A1 B1 .B1 A9", "A1 B1 B1 b1", "A1 B1 B1 B11", "A1 B1 B1 B2",
            "A1 B1 B12", "A1 B1 B2", "A1 B1 C1", "A1 B11", "A1 B2",
        )

    def test_years(self):
        self.rising("A1", "A1 1000", "A1 1999", "A1 2000", "A1 9999", "A1 B1", "A1 B1 1000", "A1 B1 B1")

    def test_copies(self):
        self.rising(
            "A1", "A1 c.2", "A1 c.9", "A1 c.10", "A1 c.99", "A1 1000", "A1 1000 c.2", "A1 1001", "A1 C2", "A1 C2 c.2",
            "A1 C2 1000 c.3",
        )

    def test_many_pairs(self):
        draw = random.Random(3)
        pool = []
        for head in ("A1", "A1.5", "A1.51", "AB1", "A10", "B2"):
            for parts in ("", " B1", " B12", " C1", " B1 B1", " B1 B1 B1", " B1 C1", " B1 B1 B12"):
                for year in ("", " 1999", " 2001"):
                    for copy in ("", " c.2", " c.11"):
                        pool.append(head + parts + year + copy)
        for trial in range(4000):
            one, other = draw.choice(pool), draw.choice(pool)
            mine, yours = expected_number(one), expected_number(other)
            self.assertEqual(compare(one, other), (mine > yours) - (mine < yours), (one, other))


if __name__ == "__main__":
    unittest.main()
