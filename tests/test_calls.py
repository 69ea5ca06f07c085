"""The interface; begin, shelf, book and drop: what they answer, what they refuse, and what's kept of it."""

import unittest

from shelvesorder.library import answers
from tests.helper import ask, begin, book, drop, find, held, joined, last, shelf, state, tell

NO_NUMBER = "no call number"
GREATEST = 4294967295


class Untouched(list):
    """A list that can't be changed, not for a while either."""

    def refuse(self, *args, **kwargs):
        raise AssertionError("what is handed in is changed")

    append = extend = insert = pop = remove = clear = sort = reverse = refuse
    __setitem__ = __delitem__ = __iadd__ = __imul__ = refuse


ALL_EIGHT = joined(
    shelf(10), shelf(9), book(5, " a1  b2 "), book(5, "A1 .B2"), book(6, "C3"), find("a1 b2"), find("A2"),
    tell(0), tell(0, 3), tell(2), held(0, "C3\n\nA1 b2"), held(0, "C3\n?"), held(1, ""), held(2, ""), state(),
    drop("a1 b2"), state(), begin(), state(),
)


def many_books(count, wide=1):
    return [book(wide, f"A{k}") for k in range(1, count + 1)]


class Interface(unittest.TestCase):
    def test_count_then_number(self):
        calls = joined(begin(), shelf(10), shelf(0), book(5, "A1"), book(5, ""), drop("A1"), drop("A1"))
        self.assertEqual(answers(calls), [1, 0, 1, 0, 1, -22, 1, 0, 1, -71, 1, 0, 1, -2])

    def test_whole_numbers_in_a_list(self):
        given = answers(ALL_EIGHT)
        self.assertIs(type(given), list)
        self.assertEqual({type(number) for number in given}, {int})

    def test_what_is_handed_in_stays(self):
        calls = list(ALL_EIGHT)
        answers(calls)
        self.assertEqual(calls, ALL_EIGHT)
        untouched = Untouched(ALL_EIGHT)
        self.assertEqual(answers(untouched), answers(calls))
        self.assertEqual(list(untouched), ALL_EIGHT)

    def test_lists_do_not_know_of_one_another(self):
        calls = joined(shelf(10), book(5, "A1"))
        self.assertEqual(answers(calls), [1, 0, 1, 0])
        self.assertEqual(answers(calls), [1, 0, 1, 0])
        self.assertEqual(ask(book(5, "A1")), [-33])
        self.assertEqual(ask(drop("A1")), [-2])

    def test_all_eight_calls(self):
        text = list(b"A1 .B2\n")
        expected = [1, 0, 1, 1, 1, 0, 1, -17, 1, 0, 2, 0, 0, 1, -2]
        expected += [8, 7] + text + [1, -28, 1, -2]
        expected += [4, 0, 0, 1, 0, 1, -1002, 4, 0, 1, 0, 0, 1, -2]
        expected += [3, 2, 1, 1, 1, 1, 3, 1, 0, 1, 1, 0, 1, 0]
        self.assertEqual(answers(ALL_EIGHT), expected)
        self.assertEqual(answers(ALL_EIGHT), expected)

    def test_what_is_given_back_is_not_kept(self):
        for calls in (joined(shelf(10)), joined(shelf(10), book(1, "A1"), tell(0))):
            before = list(answers(calls))
            given = answers(calls)
            given[-1] = 7
            given.append(7)
            self.assertEqual(answers(calls), before)

    def test_a_call_that_is_not_there(self):
        for call in (8, 9, 255):
            with self.assertRaises(ValueError):
                answers([call])


class Begin(unittest.TestCase):
    def test_on_a_new_object(self):
        self.assertEqual(ask(begin(), begin()), [0, 0])

    def test_no_shelves_afterwards(self):
        self.assertEqual(ask(shelf(9), shelf(9), begin(), book(1, "A1"), shelf(9)), [0, 1, 0, -33, 0])

    def test_all_eight_shelves_once_more(self):
        eight = [shelf(9)] * 8
        self.assertEqual(ask(*eight, begin(), *eight), [0, 1, 2, 3, 4, 5, 6, 7, 0, 0, 1, 2, 3, 4, 5, 6, 7])

    def test_no_books_afterwards(self):
        self.assertEqual(
            ask(shelf(9), book(9, "A1"), begin(), drop("A1"), shelf(9), book(9, "A1"), drop("A1")),
            [0, 0, 0, -2, 0, 0, 0],
        )

    def test_all_forty_books_once_more(self):
        forty = [shelf(40)] + many_books(40)
        self.assertEqual(ask(*forty, begin(), *forty), [0] * 83)


class Shelf(unittest.TestCase):
    def test_rooms(self):
        for room, expected in ((0, -22), (1, 0), (2, 0), (1999, 0), (2000, 0), (2001, -22), (GREATEST, -22)):
            with self.subTest(room=room):
                self.assertEqual(ask(shelf(room)), [expected])

    def test_eight_and_no_ninth(self):
        self.assertEqual(ask(*[shelf(5)] * 10), [0, 1, 2, 3, 4, 5, 6, 7, -12, -12])

    def test_room_is_asked_before_how_many(self):
        self.assertEqual(ask(*[shelf(5)] * 8, shelf(0), shelf(2001), shelf(1))[8:], [-22, -22, -12])

    def test_what_is_refused_adds_none(self):
        self.assertEqual(ask(shelf(0), shelf(2001), shelf(5), shelf(0), shelf(5)), [-22, -22, 0, -22, 1])
        self.assertEqual(last(shelf(0), shelf(2001), book(1, "A1")), -33)

    def test_a_ninth_gives_no_room(self):
        calls = [shelf(1)] * 8 + many_books(8) + [shelf(2000), book(1, "A9")]
        self.assertEqual(ask(*calls)[-2:], [-12, -33])

    def test_the_room_is_the_one_told(self):
        self.assertEqual(ask(shelf(7), book(8, "A1"), book(7, "A1")), [0, -33, 0])
        filled = [book(200, f"A{k}") for k in range(1, 11)]
        self.assertEqual(ask(shelf(2000), *filled, book(1, "B1")), [0] * 11 + [-33])


class BookRefused(unittest.TestCase):
    def test_wide(self):
        for wide, expected in ((0, -22), (1, 0), (199, 0), (200, 0), (201, -22), (2000, -22), (GREATEST, -22)):
            with self.subTest(wide=wide):
                self.assertEqual(last(shelf(2000), book(wide, "A1")), expected)

    def test_no_call_number_comes_first(self):
        for wide in (0, 1, 201, GREATEST):
            self.assertEqual(last(book(wide, NO_NUMBER)), -71)
        self.assertEqual(last(shelf(40), *many_books(40), book(0, NO_NUMBER)), -71)

    def test_wide_before_a_book_has_it(self):
        self.assertEqual(ask(shelf(9), book(1, "A1"), book(0, "A1"), book(201, "A1")), [0, 0, -22, -22])

    def test_wide_before_how_many_and_no_place(self):
        self.assertEqual(last(shelf(40), *many_books(40), book(0, "B1")), -22)
        self.assertEqual(last(book(201, "A1")), -22)

    def test_a_book_has_it(self):
        same = [book(1, code) for code in ("QA7.5 .B1 1999 c.2", "qa7.5 b1 1999 C.2", "  Qa7.5   .b1  1999  c.2  ")]
        self.assertEqual(ask(shelf(9), *same), [0, 0, -17, -17])

    def test_a_book_has_it_before_how_many_and_no_place(self):
        self.assertEqual(last(shelf(40), *many_books(40), book(1, " a40 ")), -17)
        self.assertEqual(last(shelf(5), book(5, "A1"), book(5, "a1")), -17)

    def test_forty_and_one_more(self):
        self.assertEqual(ask(shelf(2000), *many_books(41)), [0] * 41 + [-12])

    def test_how_many_before_no_place(self):
        self.assertEqual(ask(shelf(40), *many_books(41))[-2:], [0, -12])

    def test_one_goes_one_comes(self):
        self.assertEqual(ask(shelf(40), *many_books(40), drop("A7"), book(1, "B1"), book(1, "B2"))[-3:], [39, 0, -12])

    def test_no_place(self):
        self.assertEqual(ask(shelf(5), book(6, "A1"), book(5, "A1"), book(1, "A2")), [0, -33, 0, -33])

    def test_no_shelf_at_all(self):
        self.assertEqual(ask(book(1, "A1"), drop("A1"), shelf(1), book(1, "A1")), [-33, -2, 0, 0])

    def test_what_is_refused_changes_nothing(self):
        there = [shelf(10), shelf(10), book(6, "A1"), book(4, "A5"), book(10, "B1")]
        refused = [
            book(1, NO_NUMBER),
            book(0, "A2"),
            book(201, "A2"),
            book(3, "a1"),
            book(1, "A2"),
            shelf(0),
            drop("A2"),
            drop("?"),
        ]
        expected = [-71, -22, -22, -17, -33, -22, -2, -71]
        later = [drop("A1"), book(7, "A1"), book(6, "A1"), drop("B1"), drop("A1"), drop("A5"), shelf(1)]
        alone = ask(*there, *later)[5:]
        self.assertEqual(ask(*there, *refused)[5:], expected)
        self.assertEqual(ask(*there, *refused, *later)[13:], alone)
        self.assertEqual(alone, [2, -33, 0, 2, 1, 0, 2])

    def test_no_place_leaves_all_where_they_stood(self):
        # A1 and A3 stand on the shelves 0 and 1; a way for A2 would have to move one of them, and there's none.
        calls = [shelf(4), shelf(4), book(3, "A1"), book(3, "A3"), book(2, "A2"), book(1, "A2"), book(1, "A4")]
        self.assertEqual(ask(*calls, drop("A2")), [0, 1, 0, 0, -33, 0, 0, 3])


class Drop(unittest.TestCase):
    def test_no_call_number(self):
        self.assertEqual(ask(drop(""), drop(NO_NUMBER), drop("A1" + " " * 59), drop([0]), drop([255])), [-71] * 5)

    def test_no_book_has_it(self):
        self.assertEqual(ask(drop("A1"), shelf(9), book(1, "A1"), drop("A2"), drop("A1 c.2"), drop("A1"), drop("A1")),
                         [-2, 0, 0, -2, -2, 0, -2])

    def test_how_many_there_are(self):
        drops = [drop("A2"), drop("A4"), drop("A1"), drop("A3")]
        self.assertEqual(ask(shelf(9), *many_books(4), *drops)[5:], [3, 2, 1, 0])

    def test_all_forty(self):
        drops = [drop(f"a{k}") for k in range(1, 41)]
        self.assertEqual(ask(shelf(40), *many_books(40), *drops)[41:], list(range(39, -1, -1)))

    def test_written_otherwise(self):
        self.assertEqual(ask(shelf(9), book(1, "QA7.5 .B1 1999 c.2"), drop("  qa7.5 b1   1999 C.2")), [0, 0, 0])

    def test_the_room_is_free_again(self):
        self.assertEqual(ask(shelf(5), book(5, "A1"), book(5, "B1"), drop("A1"), book(5, "B1")), [0, 0, -33, 0, 0])

    def test_the_others_stay(self):
        # B1 went to shelf 1 as shelf 0 was full, and stays there when A1 goes: Z1 behind it can't stand on
        # shelf 0, though it is empty, unless B1 is moved.
        calls = [shelf(6), shelf(6), book(6, "A1"), book(3, "B1"), drop("A1"), book(4, "Z1")]
        self.assertEqual(ask(*calls), [0, 1, 0, 0, 1, 1])

    def test_goes_and_comes_back(self):
        codes = ["A1", "A2", "A3", "B1", "B2", "C1", "C1 c.2"]
        there = [shelf(10), shelf(12), shelf(9)] + [book(4, code) for code in codes[:6]] + [book(1, codes[6])]
        for code in codes:
            wide = 1 if code == "C1 c.2" else 4
            with self.subTest(code=code):
                self.assertEqual(ask(*there, drop(code), book(wide, code))[-2:], [6, 0])


if __name__ == "__main__":
    unittest.main()
