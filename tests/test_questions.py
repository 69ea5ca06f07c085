"""find, tell, held and state: what they answer, what they refuse, and in which order."""

import itertools
import random
import time
import unittest

from shelvesorder.library import answers
from shelvesorder.rows import count_astray
from tests.helper import (
    ask, begin, book, drop, expected_astray, expected_line, expected_number, find, held, joined, parted, replies, reply,
    shelf, state, tell, told_text,
)

NO_NUMBER = "no call number"
GREATEST = 4294967295
LONGEST = "ABC1234.5678 .A12345 .B12345 .C12345 1999 c.99"


def many_books(count, wide=1):
    return [book(wide, f"A{k}") for k in range(1, count + 1)]


class Find(unittest.TestCase):
    # A1, A2, A3 stand on shelf 0, B1 on shelf 1, C1 and C2 on shelf 3.
    there = [shelf(9), shelf(4), shelf(1), shelf(9), book(3, "A2"), book(3, "A1"), book(3, "A3"), book(4, "B1"),
             book(4, "C2"), book(4, "C1")]

    def test_no_call_number(self):
        bad = ["", " ", NO_NUMBER, "A1 " + " " * 58, [0], [255], "A1\n", "A" * 300]
        for code in bad:
            with self.subTest(code=code):
                self.assertEqual(reply(find(code)), [-71])
                self.assertEqual(reply(*self.there, find(code)), [-71])

    def test_no_book_has_it(self):
        for code in ("A4", "A1 c.2", "A1.1", "A10", "A1 1999", "A1 B1"):
            with self.subTest(code=code):
                self.assertEqual(reply(*self.there, find(code)), [-2])
        self.assertEqual(reply(find("A1")), [-2])
        self.assertEqual(reply(shelf(9), find("A1")), [-2])

    def test_shelf_and_how_many_before(self):
        expected = {"A1": [0, 0], "A2": [0, 1], "A3": [0, 2], "B1": [1, 0], "C1": [3, 0], "C2": [3, 1]}
        for code, place in expected.items():
            with self.subTest(code=code):
                self.assertEqual(reply(*self.there, find(code)), place)

    def test_written_otherwise(self):
        there = [shelf(9), book(1, "A1"), book(1, "qa7.5 .b1 1999 c.2")]
        for code in ("QA7.5 B1 1999 C.2", "   Qa7.5  .b1 1999   c.2 ", "qA7.5 .B1 1999 c.2"):
            self.assertEqual(reply(*there, find(code)), [0, 1])

    def test_after_a_move(self):
        calls = [shelf(5), shelf(5), book(4, "A2"), find("A2"), book(4, "A1"), find("A1"), find("A2")]
        self.assertEqual(replies(*calls)[3:], [[0, 0], [1], [0, 0], [1, 0]])

    def test_after_a_drop(self):
        gone = [drop("A1"), find("A1"), find("A2"), find("A3"), find("B1")]
        self.assertEqual(replies(*self.there, *gone)[len(self.there):], [[5], [-2], [0, 0], [0, 1], [1, 0]])

    def test_the_last_of_forty(self):
        there = [shelf(40)] + many_books(40)
        self.assertEqual(reply(*there, find("A40")), [0, 39])
        self.assertEqual(reply(*there, find("A10")), [0, 9])

    def test_the_last_shelf(self):
        there = [shelf(1)] * 7 + [shelf(2)]
        self.assertEqual(reply(*there, book(2, "A1"), find("A1")), [7, 0])

    def test_no_books_after_begin(self):
        self.assertEqual(reply(*self.there, begin(), find("A1")), [-2])


class Written(unittest.TestCase):
    def check(self, code, text):
        with self.subTest(code=code):
            self.assertEqual(told_text(reply(shelf(9), book(1, code), tell(0))), text + "\n")

    def test_class(self):
        for code, text in (("a1", "A1"), ("Zz10", "ZZ10"), ("abC1000", "ABC1000"), ("z9999", "Z9999")):
            self.check(code, text)

    def test_digits_behind_the_full_stop(self):
        for code in ("A1.1", "A1.01", "A1.0001", "QA76.9", "ABC1234.5678"):
            self.check(code, code)
            self.check(code.lower(), code)

    def test_parts(self):
        self.check("A1 b1", "A1 .B1")
        self.check("A1 .b1", "A1 .B1")
        self.check("A1 B00001", "A1 .B00001")
        self.check("A1 z12345 .y2", "A1 .Z12345 .Y2")
        self.check("A1 .b01 c2 .D3", "A1 .B01 .C2 .D3")
        self.check("a1.5 c2", "A1.5 .C2")

    def test_year(self):
        self.check("a1 1000", "A1 1000")
        self.check("a1.5 9999", "A1.5 9999")
        self.check("a1 b1 1999", "A1 .B1 1999")

    def test_copy(self):
        self.check("a1 C.2", "A1 c.2")
        self.check("A1 c.99", "A1 c.99")
        self.check("A1 1999 C.10", "A1 1999 c.10")
        self.check("a1 c2 C.2", "A1 .C2 c.2")

    def test_blanks(self):
        self.check("   qa76.9   b12 .c3     1999  C.20   ", "QA76.9 .B12 .C3 1999 c.20")
        self.check("  a1  ", "A1")

    def test_longest(self):
        self.check(LONGEST, LONGEST)
        self.check("abc1234.5678 a12345 b12345 c12345 1999 C.99".rjust(60), LONGEST)

    def test_every_combination(self):
        heads = ("a1", "AB20", "abc3000.05")
        parts = ("", " b1", " .c02 D3", " e1 .f2 g34567")
        for head, part, year, copy in itertools.product(heads, parts, ("", " 1500"), ("", " C.3", " c.12")):
            code = head + part + year + copy
            self.check(code, expected_line(expected_number(code)).decode().rstrip("\n"))

    def test_what_is_written_is_the_same_call_number(self):
        for code in ("qa7.5 b1 C2 1999 C.2", LONGEST, "a1"):
            there = [shelf(9), book(1, code)]
            text = told_text(reply(*there, tell(0))).rstrip("\n")
            self.assertEqual(reply(*there, find(text)), [0, 0])
            self.assertEqual(reply(*there, book(1, text)), [-17])


class Tell(unittest.TestCase):
    there = [shelf(9), shelf(2), shelf(9), book(9, "b1  1999"), book(5, "c1 d2"), book(4, "C1")]

    def test_no_such_shelf(self):
        for place in (0, 1, 7, 8, GREATEST):
            self.assertEqual(reply(tell(place)), [-2])
            self.assertEqual(reply(tell(place, 0)), [-2])
        for place in (3, 4, 8, GREATEST):
            self.assertEqual(reply(*self.there, tell(place)), [-2])
        self.assertEqual(reply(*self.there, begin(), tell(0)), [-2])

    def test_no_such_shelf_comes_first(self):
        self.assertEqual(replies(*self.there, tell(3, 0), tell(2, 0))[-2:], [[-2], [-28]])

    def test_what_is_told(self):
        self.assertEqual(reply(*self.there, tell(0)), [8] + list(b"B1 1999\n"))
        self.assertEqual(reply(*self.there, tell(2)), [10] + list(b"C1\nC1 .D2\n"))
        self.assertEqual(told_text(reply(*self.there, tell(2))), "C1\nC1 .D2\n")

    def test_no_books(self):
        for most in (0, 1, GREATEST):
            self.assertEqual(reply(*self.there, tell(1, most)), [0])
            self.assertEqual(reply(shelf(1), tell(0, most)), [0])
        self.assertEqual(replies(*self.there, drop("B1 1999"), tell(0, 0))[-2:], [[2], [0]])

    def test_most(self):
        for place, text in ((0, "B1 1999\n"), (2, "C1\nC1 .D2\n")):
            size = len(text)
            for most in (size, size + 1, GREATEST):
                self.assertEqual(reply(*self.there, tell(place, most)), [size] + list(text.encode()))
            for most in (size - 1, size // 2, 1, 0):
                self.assertEqual(reply(*self.there, tell(place, most)), [-28])

    def test_forty_of_the_longest(self):
        codes = [LONGEST.replace("ABC1234", f"ABC{k}") for k in range(1001, 1041)]
        there = [shelf(40)] + [book(1, code) for code in reversed(codes)]
        text = "\n".join(codes) + "\n"
        self.assertEqual(told_text(reply(*there, tell(0, len(text)))), text)
        self.assertEqual(reply(*there, tell(0, len(text) - 1)), [-28])
        self.assertEqual(reply(*there, held(0, text)), [0, 0, 0, 0])

    def test_order(self):
        codes = ["B1", "A10", "A9", "A1.5", "A1", "A1 1999", "A1 c.2", "A1 b1", "AA1", "A1.41"]
        there = [shelf(99)] + [book(1, code) for code in codes]
        self.assertEqual(
            told_text(reply(*there, tell(0))),
            "A1\nA1 c.2\nA1 1999\nA1 .B1\nA1.41\nA1.5\nA9\nA10\nAA1\nB1\n",
        )

    def test_where_the_books_were_put(self):
        # M1 may stand on shelf 0 or 1 and none moves: the lesser shelf has it.
        full = [shelf(6), shelf(6), shelf(6), book(6, "B1"), book(6, "P1"), book(6, "Z1"), drop("P1"), drop("B1")]
        told = replies(*full, book(3, "M1"), tell(0), tell(1), tell(2))[-3:]
        self.assertEqual([told_text(answer) for answer in told], ["M1\n", "", "Z1\n"])

    def test_one_moved_of_several_ways(self):
        # A1 moves X1 away from shelf 0: to shelf 1, not to shelf 2.
        calls = [shelf(5), shelf(5), shelf(5), book(4, "X1"), book(4, "A1"), tell(0), tell(1), tell(2)]
        self.assertEqual([told_text(answer) for answer in replies(*calls)[-3:]], ["A1\n", "X1\n", ""])


class HeldRefused(unittest.TestCase):
    there = [shelf(9), shelf(9), book(1, "A1"), book(1, "A2")]

    def held(self, text, place=0):
        return reply(*self.there, held(place, text))

    def test_no_such_shelf(self):
        for text in ("", "A1\n", "?", "A1\n" * 41, "A" * 4097, "A" * 5000):
            self.assertEqual(reply(held(0, text)), [-2])
            for place in (2, 3, 8, GREATEST):
                self.assertEqual(self.held(text, place), [-2])

    def test_how_many_bytes(self):
        for size in (4095, 4096):
            self.assertEqual(self.held("\n" * size), [0, 2, 0, 0])
            self.assertEqual(self.held("A1".rjust(size, "\n")), [0, 1, 0, 0])
            self.assertEqual(self.held("A1".ljust(size, "\n")), [0, 1, 0, 0])
        for size in (4097, 4098, 5000):
            self.assertEqual(self.held("\n" * size), [-22])
            self.assertEqual(self.held("A1".rjust(size, "\n")), [-22])
            self.assertEqual(self.held("A1".ljust(size, "\n")), [-22])

    def test_how_many_bytes_before_a_bad_line(self):
        self.assertEqual(self.held("?" * 4096), [-1001])
        self.assertEqual(self.held("?" * 4097), [-22])
        self.assertEqual(self.held("A1\n" * 41 + "?".rjust(4097, "\n")), [-22])

    def test_a_bad_line(self):
        self.assertEqual(self.held("?"), [-1001])
        self.assertEqual(self.held("?\n"), [-1001])
        self.assertEqual(self.held("A1\nA0\nA2"), [-1002])
        self.assertEqual(self.held("A1\nA2\nA3\nA"), [-1004])
        self.assertEqual(self.held("A1\n?\n?\n"), [-1002])

    def test_empty_lines_are_not_numbered(self):
        self.assertEqual(self.held("\n\n?"), [-1001])
        self.assertEqual(self.held("\nA1\n\n\nA2\n\n?\n\n"), [-1003])

    def test_blanks_alone_are_a_bad_line(self):
        self.assertEqual(self.held(" "), [-1001])
        self.assertEqual(self.held("A1\n   \nA2\n"), [-1002])
        self.assertEqual(self.held("A1\nA2\n "), [-1003])

    def test_other_ends_of_lines_are_none(self):
        self.assertEqual(self.held("A1\r\nA2\r\n"), [-1001])
        self.assertEqual(self.held("A1\nA2\r"), [-1002])
        for byte in (0, 9, 11, 12, 13, 28, 133, 255):
            self.assertEqual(self.held(b"A1" + bytes([byte]) + b"A2"), [-1001])

    def test_a_line_of_sixty_bytes_and_one_more(self):
        self.assertEqual(self.held("A2".rjust(60) + "\n" + "A1".ljust(60)), [0, 0, 0, 1])
        self.assertEqual(self.held("A2".ljust(60) + "\n" + "A1".ljust(61)), [-1002])
        self.assertEqual(self.held("A2".rjust(61) + "\n" + "A1".ljust(60)), [-1001])

    def test_how_many_lines(self):
        self.assertEqual(self.held("A1\n" * 40), [0, 1, 0, 0])
        self.assertEqual(self.held("A1\n" * 39 + "A1"), [0, 1, 0, 0])
        self.assertEqual(self.held("\n" + "A1\n\n" * 40), [0, 1, 0, 0])
        self.assertEqual(self.held("A1\n" * 41), [-22])
        self.assertEqual(self.held("A1\n" * 40 + "A1"), [-22])
        self.assertEqual(self.held("B1\n" * 41), [-22])
        self.assertEqual(self.held("A1\n" * 1365), [-22])

    def test_a_bad_line_before_how_many_lines(self):
        self.assertEqual(self.held("A1\n" * 40 + "?"), [-1041])
        self.assertEqual(self.held("A1\n" * 41 + "?"), [-1042])
        self.assertEqual(self.held("?\n" + "A1\n" * 41), [-1001])
        self.assertEqual(self.held("A1\n" * 1364 + "?"), [-2365])
        self.assertEqual(self.held("?\n" * 2048), [-1001])


class Held(unittest.TestCase):
    # A1 to A5 stand on shelf 0, none on shelf 1, B1 and B2 on shelf 2.
    there = [shelf(5), shelf(1), shelf(4)] + [book(1, f"A{k}") for k in (3, 1, 5, 2, 4)]
    there += [book(2, "B1"), book(2, "B2")]

    def check(self, text, expected, place=0):
        with self.subTest(text=text):
            self.assertEqual(reply(*self.there, held(place, text)), [0] + expected)

    def test_where_they_stand(self):
        self.assertEqual(reply(*self.there, state()), [7, 5, 0, 2])

    def test_as_it_should_be(self):
        self.check("A1\nA2\nA3\nA4\nA5\n", [0, 0, 0])
        self.check("A1\nA2\nA3\nA4\nA5", [0, 0, 0])
        self.check("\nA1\n\nA2\nA3\n\n\nA4\nA5\n\n", [0, 0, 0])
        self.check(" a1\na2 \n  a3\nA4\n a5  ", [0, 0, 0])
        self.check("B1\nB2\n", [0, 0, 0], place=2)

    def test_nothing_is_told(self):
        for text in ("", "\n", "\n" * 50, "\n" * 4096):
            self.check(text, [5, 0, 0])
            self.check(text, [0, 0, 0], place=1)
            self.check(text, [2, 0, 0], place=2)

    def test_some_lack(self):
        self.check("A1", [4, 0, 0])
        self.check("A5\n", [4, 0, 0])
        self.check("A2\nA4", [3, 0, 0])

    def test_too_much(self):
        self.check("A1\nA2\nA3\nA4\nA5\nA6", [0, 1, 0])
        self.check("Z9\nA1\nA2 c.2\nA2\nA3\nA4\nA5\nZ9", [0, 3, 0])
        self.check("Z9\nZ9", [5, 2, 0])
        self.check("A1\nB1", [0, 2, 0], place=1)

    def test_a_book_of_another_shelf(self):
        self.check("B1\nA1\nA2\nA3\nB2\nA4\nA5", [0, 2, 0])
        self.check("A1\nA2\nA3\nA4\nA5\n", [2, 5, 0], place=2)
        self.check("B2\nA5\nB1\n", [0, 1, 1], place=2)

    def test_too_much_is_not_in_the_row(self):
        self.check("Z1\nA1\nA9 B1\nA2\nB1\nA3", [2, 3, 0])

    def test_a_line_told_twice(self):
        self.check("A1\nA1", [4, 0, 0])
        self.check("A1\na1 \nA2\nA3\nA4\nA5\nA5", [0, 0, 0])
        self.check("A1\nA2\nA1\n", [3, 0, 1])
        self.check("A2\nA1\nA1\nA2", [3, 0, 1])
        self.check("A3\nA3\nA1\nA3\nA1\nA1", [3, 0, 3])
        self.check("A5\n" * 40, [4, 0, 0])

    def test_astray(self):
        self.check("A2\nA1\nA3\nA4\nA5", [0, 0, 1])
        self.check("A2\nA3\nA4\nA5\nA1", [0, 0, 1])
        self.check("A5\nA1\nA2\nA3\nA4", [0, 0, 1])
        self.check("A4\nA5\nA1\nA2\nA3", [0, 0, 2])
        self.check("A1\nA3\nA2\nA5\nA4", [0, 0, 2])

    def test_wholly_backwards(self):
        self.check("A5\nA4\nA3\nA2\nA1", [0, 0, 4])
        self.check("A4\nA2", [3, 0, 1])
        self.check("A5\nA5\nA3\nA3\nA1\nA1", [2, 0, 4])
        forty = [shelf(40)] + many_books(40)
        text = "\n".join(f"A{k}" for k in range(40, 0, -1))
        self.assertEqual(reply(*forty, held(0, text)), [0, 0, 0, 39])

    def test_several_choices_alike(self):
        self.check("A3\nA4\nA1\nA2", [1, 0, 2])
        self.check("A2\nA1\nA4\nA3", [1, 0, 2])
        self.check("A2\nA3\nA1\nA5\nA4", [0, 0, 2])
        self.check("A3\nA1\nA2\nA1\nA3", [2, 0, 2])

    def test_places_are_by_the_order_not_by_letters(self):
        there = [shelf(9)] + [book(1, code) for code in ("A10", "A9", "A9.5", "A9.41")]
        self.assertEqual(reply(*there, held(0, "A9\nA9.41\nA9.5\nA10")), [0, 0, 0, 0])
        self.assertEqual(reply(*there, held(0, "A10\nA9\nA9.5\nA9.41")), [0, 0, 0, 2])

    def test_forty_lines_all_different(self):
        forty = [shelf(40)] + many_books(40)
        lines = [f"A{k}" for k in range(1, 41)]
        self.assertEqual(reply(*forty, held(0, "\n".join(lines))), [0, 0, 0, 0])
        self.assertEqual(reply(*forty, held(0, "\n".join(lines[20:] + lines[:20]))), [0, 0, 0, 20])
        self.assertEqual(reply(*forty, held(0, "\n".join(lines[30:] + ["B1"] + lines[:20]))), [0, 10, 1, 10])

    def test_after_a_drop(self):
        self.assertEqual(reply(*self.there, drop("A3"), held(0, "A1\nA2\nA3\nA4\nA5")), [0, 0, 1, 0])


class Astray(unittest.TestCase):
    def most_that_stay(self, row):
        """All choices are tried, the greatest first."""
        for size in range(len(row), -1, -1):
            for choice in itertools.combinations(row, size):
                if list(choice) == sorted(choice):
                    return size

    def test_every_short_row(self):
        for size in range(7):
            for row in itertools.product(range(4), repeat=size):
                self.assertEqual(count_astray(list(row)), size - self.most_that_stay(row), row)
                self.assertEqual(expected_astray(row), size - self.most_that_stay(row), row)

    def test_every_order(self):
        for row in itertools.permutations(range(6)):
            self.assertEqual(count_astray(list(row)), 6 - self.most_that_stay(row), row)

    def test_drawn_rows(self):
        draw = random.Random(21)
        for trial in range(400):
            row = [draw.randrange(draw.choice((3, 10, 40))) for place in range(draw.randint(0, 40))]
            before = list(row)
            self.assertEqual(count_astray(row), expected_astray(row), row)
            self.assertEqual(row, before)


class State(unittest.TestCase):
    def test_none(self):
        self.assertEqual(replies(state(), shelf(5), state(), shelf(5), state(), begin(), state()),
                         [[0], [0], [0, 0], [1], [0, 0, 0], [0], [0]])

    def test_how_many(self):
        calls = [shelf(5), shelf(2), shelf(5), book(5, "A1"), book(3, "B1"), book(1, "C1")]
        self.assertEqual(reply(*calls, state()), [3, 1, 0, 2])
        self.assertEqual(reply(*calls, drop("A1"), state()), [2, 0, 0, 2])
        self.assertEqual(reply(*calls, drop("B1"), shelf(1), state()), [2, 1, 0, 1, 0])

    def test_all_shelves_and_all_books(self):
        eight = [shelf(5)] * 8
        self.assertEqual(reply(*eight, state()), [0] * 9)
        self.assertEqual(reply(*eight, *many_books(40), state()), [40] + [5] * 8)
        self.assertEqual(reply(*eight, *many_books(41), shelf(5), state()), [40] + [5] * 8)

    def test_after_a_move(self):
        calls = [shelf(5), shelf(5), book(4, "A2"), state(), book(4, "A1"), state()]
        self.assertEqual(replies(*calls)[3:], [[1, 1, 0], [1], [2, 1, 1]])


class Time(unittest.TestCase):
    """Lists as great as they may be."""

    def check_time(self, calls, most):
        flat = joined(*calls)
        self.assertLessEqual(len(calls), 5000)
        self.assertLessEqual(len(flat), 31000)
        start = time.perf_counter()
        given = answers(flat)
        self.assertLess(time.perf_counter() - start, most)
        self.assertLess(len(given) - len(calls), 1000000)
        return parted(given)

    def forty_of_the_longest(self):
        codes = [LONGEST.replace("ABC1234", f"ABC{k}") for k in range(1001, 1041)]
        return [shelf(40)] + [book(1, code) for code in codes]

    def test_tell_refused(self):
        there = self.forty_of_the_longest()
        given = self.check_time(there + [tell(0, 1)] * 4900, 20)
        self.assertEqual(given[len(there):], [[-28]] * 4900)

    def test_tell_as_much_as_may_be(self):
        there = self.forty_of_the_longest()
        given = self.check_time(there + [tell(0)] * 530, 20)
        self.assertEqual({tuple(answer) for answer in given[len(there):]}, {tuple(given[-1])})
        self.assertEqual(given[-1][0], 40 * 47)

    def test_held(self):
        there = [shelf(40)] + many_books(40)
        backwards = "\n".join(f"A{k}" for k in range(40, 0, -1))
        given = self.check_time(there + [held(0, backwards)] * 185, 20)
        self.assertEqual(given[len(there):], [[0, 0, 0, 39]] * 185)
        given = self.check_time([shelf(1)] + [held(0, "A1\n" * 1365)] * 7, 20)
        self.assertEqual(given[1:], [[-22]] * 7)

    def test_find_and_state(self):
        there = [shelf(5)] * 8 + many_books(40)
        given = self.check_time(there + [find("A40"), state()] * 2400, 20)
        self.assertEqual(given[len(there):], [[7, 4], [40] + [5] * 8] * 2400)


class Unchanged(unittest.TestCase):
    def test_questions_change_nothing(self):
        there = [shelf(5), shelf(5), shelf(5), book(4, "A2"), book(4, "A1"), book(2, "B1")]
        picture = [state(), tell(0), tell(1), tell(2)]
        questions = [
            find("A1"), find("A9"), find("?"), tell(0), tell(0, 0), tell(3), tell(2), held(0, "A1"),
            held(0, "B1\nA1\nA1"), held(0, "?"), held(3, ""), held(0, "A1\n" * 41), held(0, "\n" * 4097), state(),
        ]
        before = replies(*there, *picture)[-4:]
        self.assertEqual(replies(*there, *questions, *picture)[-4:], before)
        self.assertEqual(replies(*there, *questions, *questions)[len(there) + len(questions):],
                         replies(*there, *questions)[len(there):])

    def test_questions_before_there_is_anything(self):
        calls = [find("A1"), tell(0), held(0, "A1"), state(), drop("A1"), book(1, "A1"), state()]
        self.assertEqual(replies(*calls), [[-2], [-2], [-2], [0], [-2], [-33], [0]])
        self.assertEqual(ask(shelf(1), book(1, "A1"), drop("A1")), [0, 0, 0])


if __name__ == "__main__":
    unittest.main()
