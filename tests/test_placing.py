"""Where books are put: in order, none too full, the fewest moved, the lesser shelf first."""

import itertools
import random
import time
import unittest

from shelvesorder.library import answers
from shelvesorder.placing import place_books
from tests.helper import Model, ask, begin, book, drop, expected_shelves, last, shelf


def all_ways(rooms, wides):
    """Every way to stand in order and none too full; the first one that differs has the lesser shelf first."""
    for way in itertools.combinations_with_replacement(range(len(rooms)), len(wides)):
        used = [0] * len(rooms)
        for place, wide in zip(way, wides):
            used[place] += wide
        if all(use <= room for use, room in zip(used, rooms)):
            yield list(way)


def how_many_moved(olds, way):
    return sum(old not in (None, place) for old, place in zip(olds, way))


class HowManyMove(unittest.TestCase):
    def test_none(self):
        self.assertEqual(ask(shelf(9), book(3, "A2"), book(3, "A1"), book(3, "A3")), [0, 0, 0, 0])
        self.assertEqual(ask(shelf(3), shelf(3), book(3, "A1"), book(3, "A2")), [0, 1, 0, 0])

    def test_one(self):
        # A2 stands on shelf 0 and has to give way to A1.
        self.assertEqual(ask(shelf(5), shelf(5), book(4, "A2"), book(4, "A1")), [0, 1, 0, 1])

    def test_several(self):
        # Four books fill the shelves 0 to 3; one ahead of them shifts each to the next shelf.
        calls = [shelf(5) for place in range(5)] + [book(5, f"A{k}") for k in (2, 3, 4, 5)] + [book(5, "A1")]
        self.assertEqual(ask(*calls)[5:], [0, 0, 0, 0, 4])

    def test_as_many_as_there_are(self):
        wide = [shelf(200) for place in range(8)] + [book(200, f"A{k}") for k in range(2, 9)]
        self.assertEqual(last(*wide, book(200, "A1")), 7)
        self.assertEqual(last(*wide, book(200, "A5 B1")), 3)
        self.assertEqual(last(*wide, book(200, "A9")), 0)
        self.assertEqual(last(*wide, book(200, "A9"), book(1, "A1")), -33)

    def test_the_fewer_of_two_ways(self):
        # A1, A2 and C1 fill shelf 0. B1 finds place if C1 alone goes to shelf 1 and B1 with it.
        calls = [shelf(10), shelf(10), book(3, "A1"), book(3, "A2"), book(4, "C1"), book(4, "B1")]
        self.assertEqual(ask(*calls), [0, 1, 0, 0, 0, 1])
        # A1, A2, A3 fill shelf 0 and B1 most of shelf 1: moving B1 on makes room, moving the three isn't needed.
        there = [shelf(9), shelf(9), shelf(9), book(3, "A1"), book(3, "A2"), book(3, "A3"), book(8, "B1")]
        self.assertEqual(ask(*there, book(2, "A4")), [0, 1, 2, 0, 0, 0, 0, 1])

    def test_to_a_lesser_shelf(self):
        # A1 goes, B1 stays on shelf 1; a wide one behind it has room only once B1 is on shelf 0.
        calls = [shelf(5), shelf(5), book(5, "A1"), book(3, "B1"), drop("A1"), book(5, "C1")]
        self.assertEqual(ask(*calls), [0, 1, 0, 0, 1, 1])

    def test_the_new_one_does_not_count(self):
        self.assertEqual(ask(shelf(1), shelf(9), book(9, "A2"), book(1, "A1")), [0, 1, 0, 0])


class WhereItBreaks(unittest.TestCase):
    def test_as_wide_as_a_shelf(self):
        self.assertEqual(ask(shelf(200), book(200, "A1"), book(1, "A2")), [0, 0, -33])
        between = [shelf(1), shelf(200), shelf(1), book(200, "A2")]
        self.assertEqual(ask(*between, book(1, "A1"), book(1, "A3"), book(1, "A4"))[4:], [0, 0, -33])

    def test_a_full_shelf_between_two(self):
        # Shelf 1 is full of B1; A9 has to stay ahead of it and C1 behind it.
        there = [shelf(4), shelf(5), shelf(4), book(5, "B1")]
        self.assertEqual(ask(*there, book(4, "A9"), book(4, "C1"))[4:], [0, 0])
        self.assertEqual(ask(*there, book(4, "A9"), book(1, "A8"))[4:], [0, -33])
        self.assertEqual(ask(*there, book(4, "C9"), book(1, "C1"))[4:], [0, -33])

    def test_behind_the_last(self):
        there = [shelf(4), shelf(4), book(4, "A1"), book(4, "A2")]
        self.assertEqual(last(*there, book(1, "A3")), -33)
        self.assertEqual(ask(*there, shelf(4), book(4, "A3"))[4:], [2, 0])

    def test_but_for_one_millimetre(self):
        for room, expected in ((9, 0), (8, -33)):
            self.assertEqual(last(shelf(room), book(4, "A1"), book(5, "A2")), expected)
        self.assertEqual(last(shelf(8), shelf(5), book(4, "A1"), book(5, "A2")), 0)
        self.assertEqual(last(shelf(8), shelf(5), book(4, "A2"), book(5, "A1")), 1)
        self.assertEqual(last(shelf(8), shelf(3), book(4, "A2"), book(5, "A1")), -33)
        nine = [shelf(2000)] + [book(200, f"A{k}") for k in range(1, 10)]
        self.assertEqual(last(*nine, book(199, "B1"), book(1, "B2")), 0)
        self.assertEqual(last(*nine, book(200, "B1"), book(1, "B2")), -33)

    def test_shelves_added_behind_full_ones(self):
        calls = [shelf(5), book(5, "A1"), book(5, "A2"), shelf(5), book(5, "A2"), shelf(5), book(5, "A1 B1")]
        self.assertEqual(ask(*calls), [0, 0, -33, 1, 0, 2, 1])
        calls = [shelf(5), shelf(5), book(5, "B1"), book(5, "B2"), book(5, "A1"), shelf(5), book(5, "A1")]
        self.assertEqual(ask(*calls), [0, 1, 0, 0, -33, 2, 2])

    def test_room_ahead_that_order_forbids(self):
        self.assertEqual(ask(shelf(3), shelf(9), book(9, "A1"), book(3, "A2")), [0, 1, 0, -33])


class WhichOfSeveralWays(unittest.TestCase):
    def test_the_first_book_has_the_least_shelf(self):
        # A2 stands on shelf 0, so one ahead of it that leaves it no room there moves it; behind it none moves.
        there = [shelf(5), shelf(5), book(3, "A2")]
        self.assertEqual(last(*there, book(3, "A1")), 1)
        self.assertEqual(last(*there, book(3, "A3")), 0)

    def test_between_two_the_lesser_shelf(self):
        # M1 may stand on shelf 0 or 1 and none moves: it has shelf 0, so L1, as wide as that shelf, moves it,
        # while N1, as wide as shelf 1, finds that one empty.
        full = [shelf(6), shelf(6), shelf(6), book(6, "B1"), book(6, "P1"), book(6, "Z1")]
        there = full + [drop("P1"), drop("B1"), book(3, "M1")]
        self.assertEqual(ask(*there)[3:], [0, 0, 0, 2, 1, 0])
        self.assertEqual(last(*there, book(6, "L1")), 1)
        self.assertEqual(last(*there, book(6, "N1")), 0)

    def test_one_that_must_move_has_the_lesser_shelf(self):
        # A1 moves X1 from shelf 0, to shelf 1 rather than 2: then Z1, as wide as a shelf, has shelf 2 behind
        # it, while M1 ahead of it moves it once more.
        there = [shelf(5), shelf(5), shelf(5), book(4, "X1"), book(4, "A1")]
        self.assertEqual(ask(*there)[3:], [0, 1])
        self.assertEqual(last(*there, book(5, "Z1")), 0)
        self.assertEqual(last(*there, book(5, "M1")), 1)

    def test_every_small_case(self):
        count = 0
        for rooms in itertools.product((1, 2, 3), repeat=3):
            for wides in itertools.product((1, 2), repeat=4):
                ways = list(all_ways(rooms, wides))
                for olds in itertools.combinations_with_replacement((0, 1, 2), 3):
                    for new in range(4):
                        had = list(olds[:new]) + [None] + list(olds[new:])
                        least = min(ways, key=lambda way: how_many_moved(had, way), default=None)
                        self.assertEqual(place_books(list(rooms), list(wides), had), least, (rooms, wides, had))
                        count += 1
        self.assertEqual(count, 27 * 16 * 10 * 4)

    def test_drawn_cases(self):
        draw = random.Random(11)
        for trial in range(1500):
            rooms = [draw.randint(1, 9) for place in range(draw.randint(0, 4))]
            wides = [draw.randint(1, 4) for one in range(draw.randint(1, 7))]
            had = sorted(draw.randrange(max(1, len(rooms))) for one in wides)
            had[draw.randrange(len(had))] = None
            least = min(all_ways(rooms, wides), key=lambda way: how_many_moved(had, way), default=None)
            self.assertEqual(place_books(rooms, wides, had), least, (rooms, wides, had))
            plain = expected_shelves(rooms, wides, had)
            self.assertEqual(plain and plain[1], least)

    def test_drawn_cases_of_full_size(self):
        draw = random.Random(12)
        placed = 0
        for trial in range(150):
            wides = [draw.randint(1, 200) for one in range(40)]
            rooms = [sum(wides) // 8 + draw.randint(-20, 250) for place in range(8)]
            had = sorted(draw.randrange(8) for one in wides)
            had[draw.randrange(40)] = None
            least = expected_shelves(rooms, wides, had)
            placed += least is not None
            self.assertEqual(place_books(rooms, wides, had), least and least[1])
        self.assertGreater(placed, 30)


class LongLists(unittest.TestCase):
    def draw_calls(self, draw, count, codes, widest, roomiest):
        calls = [shelf(draw.randint(1, roomiest)) for place in range(draw.randint(1, 8))]
        while len(calls) < count:
            kind = draw.randrange(100)
            if kind < 60:
                calls.append(book(draw.randint(1, widest), draw.choice(codes)))
            elif kind < 92:
                calls.append(drop(draw.choice(codes)))
            elif kind < 97:
                calls.append(shelf(draw.randint(0, roomiest)))
            elif kind < 98:
                calls.append(begin())
            else:
                calls.append(book(draw.choice((0, 201)), draw.choice(codes)))
        return calls

    def test_against_the_model(self):
        draw = random.Random(5)
        codes = [f"{head}{parts}{year}" for head in ("A1", "a9", "B10", "QA7.5") for parts in ("", " b1", " .C12 D3")
                 for year in ("", " 1999 c.2")] + ["A 1", "", "A1 .B1"]
        seen = {}
        for trial in range(60):
            calls = self.draw_calls(draw, 120, codes, draw.choice((3, 20, 200)), draw.choice((6, 30, 300)))
            expected = Model().ask(calls)
            self.assertEqual(ask(*calls), expected)
            for answer in expected:
                seen[answer] = seen.get(answer, 0) + 1
        for answer in (-71, -33, -22, -17, -12, -2, 0, 1, 2, 3):
            self.assertIn(answer, seen)

    def test_model_with_many_books(self):
        draw = random.Random(6)
        codes = [f"{letters}{k}" for letters in ("A", "AB", "C") for k in range(1, 21)]
        calls = [shelf(120) for place in range(8)] + [book(draw.randint(1, 40), code) for code in codes]
        for step in range(200):
            calls.append(drop(draw.choice(codes)))
            calls.append(book(draw.randint(1, 40), draw.choice(codes)))
        self.assertEqual(ask(*calls), Model().ask(calls))

    def check_time(self, calls, most):
        flat = [number for call in calls for number in call]
        self.assertLessEqual(len(calls), 5000)
        self.assertLessEqual(len(flat), 31000)
        start = time.perf_counter()
        given = answers(flat)
        self.assertLess(time.perf_counter() - start, most)
        self.assertEqual(given[0::2], [1] * len(calls))
        return given[1::2]

    def test_thousands_of_calls_in_time(self):
        there = [shelf(100) for place in range(8)]
        there += [book(20, f"{letter}{k}") for letter in "BDFH" for k in range(1, 10)]
        moving = [call for k in range(2400) for call in (book(20, "A1"), drop("A1"))]
        given = self.check_time(there + moving, 20)
        self.assertEqual(given[44], 7)
        self.assertEqual(set(given[45::2]), {36})

    def test_thousands_refused_in_time(self):
        there = [shelf(39)] + [shelf(1) for place in range(7)]
        there += [book(1, f"{letter}{k}") for letter in "BDFH" for k in range(1, 10)]
        given = self.check_time(there + [book(99, "A1") for k in range(4900)], 20)
        self.assertEqual(given[44:], [-33] * 4900)


if __name__ == "__main__":
    unittest.main()
