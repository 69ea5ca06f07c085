"""What holds over the whole program, a to e, over many lists of calls drawn with a fixed seed."""

import itertools
import random
import unittest

from shelvesorder.library import answers
from tests.helper import (
    Model, begin, book, drop, expected_line, expected_number, find, held, joined, replies, reply, shelf, state, tell,
    told_text,
)

GREATEST = 4294967295
HEADS = ("A1", "a9", "B10", "b10.5", "QA7.05", "qa7.1", "ZZZ9999")
PARTS = ("", " b1", " .C12 d3", " .b1 .B1 b1")
ENDS = ("", " 1999", " c.2", " 1999 C.10")
GOOD = [head + parts + end for head in HEADS for parts in PARTS for end in ENDS]
BAD = ["", " ", "A 1", "A0", "A1 B10", "A1 0999", "A1 c.1", "A1 b1 b1 b1 b1", "A1\t", "A1".ljust(61), "A1" * 150]
PICTURE = 9


def otherwise(draw, code):
    """The same call number, written otherwise."""
    words = []
    for k, word in enumerate(code.split()):
        word = draw.choice((word.upper(), word.lower(), word))
        if k > 0 and word.lstrip(".")[0].isalpha() and "." not in word[1:]:
            word = draw.choice(("", ".")) + word.lstrip(".")
        words.append(word)
    text = words[0]
    for word in words[1:]:
        text += " " * draw.choice((1, 1, 2)) + word
    return " " * draw.choice((0, 0, 1)) + text + " " * draw.choice((0, 0, 1))


def picture():
    """All that can be seen: how many, and what stands on each of eight shelves."""
    return [state()] + [tell(place) for place in range(8)]


def standing(seen):
    """The shelf of each book that is there, by its written call number, in order from shelf to shelf."""
    return {line: place for place, answer in enumerate(seen[1:]) if answer[0] >= 0
            for line in told_text(answer).split("\n")[:-1]}


class Drawn:
    """Calls of all eight kinds, drawn so that books come, go, come back and are asked for."""

    def __init__(self, seed, few):
        self.draw = random.Random(seed)
        self.codes = self.draw.sample(GOOD, 8 if few else 60)
        self.widest = self.draw.choice((3, 20, 200))
        self.roomiest = self.widest * self.draw.choice((2, 6, 10))

    def code(self):
        if self.draw.randrange(15) == 0:
            return self.draw.choice(BAD)
        return otherwise(self.draw, self.draw.choice(self.codes))

    def text(self):
        size = self.draw.choice((0, 1, 3, 8, 20, 40, 40, 41, 45))
        lines = [otherwise(self.draw, self.draw.choice(self.codes)) for line in range(size)]
        if self.draw.randrange(2) == 0:
            lines = sorted(lines, key=expected_number)
        if size and self.draw.randrange(6) == 0:
            lines[self.draw.randrange(size)] = self.draw.choice(BAD)
        ends = [self.draw.choice(("\n", "\n", "\n\n")) for line in lines]
        text = "".join(line + end for line, end in zip(lines, ends))
        if self.draw.randrange(3) == 0:
            text = text.rstrip("\n")
        if self.draw.randrange(40) == 0:
            text = text.ljust(self.draw.choice((4096, 4097, 5000)), "\n")
        return text

    def place(self):
        return self.draw.choice((0, 0, 0, 1, 1, 2, 3, 4, 5, 6, 7, 8, GREATEST))

    def shelf(self):
        odd = self.draw.randrange(12) == 0
        return shelf(self.draw.choice((0, 2001, GREATEST)) if odd else self.draw.randint(1, min(2000, self.roomiest)))

    def book(self):
        odd = self.draw.randrange(30) == 0
        return book(self.draw.choice((0, 201, GREATEST)) if odd else self.draw.randint(1, self.widest), self.code())

    def call(self):
        kind = self.draw.randrange(200)
        if kind < 1:
            return begin()
        if kind < 12:
            return self.shelf()
        if kind < 100:
            return self.book()
        if kind < 125:
            return drop(self.code())
        if kind < 145:
            return find(self.code())
        if kind < 165:
            return tell(self.place(), self.draw.choice((0, 5, 20, 60, 200, GREATEST, GREATEST)))
        if kind < 190:
            return held(self.place(), self.text())
        return state()

    def calls(self, count):
        first = [self.shelf() for place in range(self.draw.randint(0, 5))]
        return first + [self.call() for k in range(count)]


class AgainstThePlainWay(unittest.TestCase):
    def test_all_eight_calls(self):
        seen = {}
        for seed in range(120):
            calls = Drawn(seed, few=seed % 2 == 0).calls(80)
            flat = joined(*calls)
            self.assertLessEqual(len(flat), 31000)
            expected = Model().replies(calls)
            before = list(flat)
            given = answers(flat)
            self.assertEqual(given, [number for answer in expected for number in [len(answer)] + answer], seed)
            self.assertEqual(answers(flat), given)
            self.assertEqual(flat, before)
            for call, answer in zip(calls, expected):
                seen.setdefault(call[0], set()).add(answer[0])
                if call[0] == 6 and answer[0] == 0:
                    seen.setdefault("held", []).append(answer[1:])
        self.check_seen(seen)

    def check_seen(self, seen):
        """That the lists drawn reach every answer there is."""
        self.assertEqual(seen[0], {0})
        self.assertLessEqual({-22, -12, 0, 1, 2, 3, 4, 5, 6, 7}, seen[1])
        self.assertLessEqual({-71, -22, -17, -33, 0, 1, 2, 3}, seen[2])
        self.assertLessEqual({-71, -2, 0, 1, 2, 3}, seen[3])
        self.assertLessEqual({-71, -2, 0, 1, 2, 3}, seen[4])
        self.assertLessEqual({-2, -28, 0}, seen[5])
        self.assertGreater(max(seen[5]), 100)
        self.assertLessEqual({-2, -22, -1001, -1002, 0}, seen[6])
        self.assertLessEqual(set(range(8)), seen[7])
        for numbers in zip(*seen["held"]):
            self.assertLessEqual({0, 1, 2, 3}, set(numbers))

    def test_forty_books(self):
        draw = random.Random(77)
        for trial in range(6):
            calls = [shelf(draw.randint(80, 160)) for place in range(8)]
            codes = draw.sample(GOOD, 60)
            calls += [book(draw.randint(1, 20), otherwise(draw, code)) for code in codes]
            for step in range(60):
                code = draw.choice(codes)
                lines = [otherwise(draw, draw.choice(codes)) for line in range(draw.choice((5, 20, 40)))]
                calls += [drop(code), book(draw.randint(1, 20), draw.choice(codes)), find(draw.choice(codes))]
                calls += [tell(draw.randrange(8)), state(), held(draw.randrange(8), "\n".join(lines[:10]))]
            expected = Model().replies(calls)
            self.assertEqual(replies(*calls), expected)
            self.assertIn([-12], expected)


class WhatHolds(unittest.TestCase):
    """Seen from outside alone: all that can be seen is asked for behind each call."""

    def each_step(self, seeds, count, few=True):
        """The calls up to here, the last one, its answer, and what is seen before it and behind it."""
        for seed in seeds:
            calls = [call for call in Drawn(seed, few).calls(count) if call[0] < 7]
            asked = picture()
            for call in calls:
                asked += [call] + picture()
            given = replies(*asked)
            for k, call in enumerate(calls):
                start = k * (PICTURE + 1)
                before = given[start:start + PICTURE]
                behind = given[start + PICTURE + 1:start + 2 * PICTURE + 1]
                yield calls[:k], call, given[start + PICTURE], before, behind

    def follow(self, known, call, answer):
        """The rooms, and of each book how wide it is, by what was answered."""
        rooms, wides = known
        if call[0] == 0:
            rooms.clear()
            wides.clear()
        if answer[0] < 0:
            return
        if call[0] == 1:
            rooms.append(call[1])
        elif call[0] == 2:
            wides[expected_line(expected_number(call[3:])).decode().rstrip("\n")] = call[1]
        elif call[0] == 3:
            wides.pop(expected_line(expected_number(call[2:])).decode().rstrip("\n"))

    def each_known_step(self, seeds, count, few=True):
        known = ([], {})
        for earlier, call, answer, before, behind in self.each_step(seeds, count, few):
            if not earlier:
                known = ([], {})
            self.follow(known, call, answer)
            yield known, call, answer, before, behind

    def test_a_in_order_and_none_too_full(self):
        full = 0
        for (rooms, wides), call, answer, before, behind in self.each_known_step(range(200, 260), 60, few=False):
            there = standing(behind)
            self.assertEqual(sorted(there), sorted(wides))
            numbers = [expected_number(line) for line in there]
            self.assertTrue(all(one < other for one, other in zip(numbers, numbers[1:])), there)
            self.assertEqual(behind[0][0], len(there))
            self.assertEqual(len(behind[0]) - 1, len(rooms))
            for place, room in enumerate(rooms):
                here = [line for line in there if there[line] == place]
                self.assertEqual(behind[0][1 + place], len(here))
                self.assertLessEqual(sum(wides[line] for line in here), room)
                full += sum(wides[line] for line in here) == room
            self.assertEqual(behind[1 + len(rooms):], [[-2]] * (8 - len(rooms)))
        self.assertGreater(full, 100)

    def ways(self, rooms, wides):
        """Every way to put them, the one whose first book that differs has the lesser shelf first."""
        for way in itertools.combinations_with_replacement(range(len(rooms)), len(wides)):
            used = [0] * len(rooms)
            for place, wide in zip(way, wides):
                used[place] += wide
            if all(use <= room for use, room in zip(used, rooms)):
                yield way

    def test_b_no_way_moves_fewer(self):
        tried = {}
        for (rooms, wides), call, answer, before, behind in self.each_known_step(range(300, 400), 40):
            if call[0] != 2 or answer[0] < 0 and answer[0] != -33:
                continue
            new = expected_line(expected_number(call[3:])).decode().rstrip("\n")
            had = standing(before)
            codes = sorted(list(had) + [new], key=expected_number)
            widths = [call[1] if code == new else wides[code] for code in codes]
            least = None
            for way in self.ways(rooms, widths):
                moved = sum(code != new and had[code] != place for code, place in zip(codes, way))
                if least is None or moved < least[0]:
                    least = (moved, way)
            if least is None:
                self.assertEqual(answer, [-33])
            else:
                self.assertEqual(answer, [least[0]])
                self.assertEqual(standing(behind), dict(zip(codes, least[1])))
            tried[answer[0]] = tried.get(answer[0], 0) + 1
        for moved in (-33, 0, 1, 2):
            self.assertGreater(tried.get(moved, 0), 5, tried)

    def test_c_goes_and_comes_back(self):
        count = 0
        for seed in range(400, 430):
            calls = Drawn(seed, few=False).calls(50)
            known = ([], {})
            for call, answer in zip(calls, replies(*calls)):
                self.follow(known, call, answer)
            before = standing(replies(*calls, *picture())[-PICTURE:])
            for code, wide in known[1].items():
                given = replies(*calls, drop(code), *picture(), book(wide, code), *picture())[len(calls):]
                self.assertEqual(given[0], [len(before) - 1])
                rest = {line: place for line, place in before.items() if line != code}
                self.assertEqual(standing(given[1:PICTURE + 1]), rest)
                self.assertEqual(given[PICTURE + 1], [0])
                behind = standing(given[PICTURE + 2:])
                self.assertEqual({line: place for line, place in behind.items() if line != code}, rest)
                self.assertIn(code, behind)
                count += 1
        self.assertGreater(count, 100)

    def test_d_a_shelf_that_is_told_held_against_itself(self):
        count = 0
        for seed in range(500, 560):
            calls = Drawn(seed, few=False).calls(60)
            for place, answer in enumerate(replies(*calls, *picture())[-8:]):
                if answer[0] < 0:
                    continue
                text = told_text(answer)
                self.assertEqual(reply(*calls, held(place, text)), [0, 0, 0, 0])
                self.assertEqual(reply(*calls, held(place, text.rstrip("\n"))), [0, 0, 0, 0])
                for k, code in enumerate(text.split("\n")[:-1]):
                    self.assertEqual(reply(*calls, find(code)), [place, k])
                    count += 1
        self.assertGreater(count, 200)

    def test_e_what_is_refused_changes_nothing(self):
        refused = set()
        for earlier, call, answer, before, behind in self.each_step(range(600, 680), 60):
            if answer[0] < 0:
                refused.add((call[0], max(answer[0], -1001)))
                self.assertEqual(len(answer), 1)
            if answer[0] < 0 or call[0] > 3:
                self.assertEqual(behind, before, (earlier, call))
        self.assertLessEqual(
            {(1, -22), (1, -12), (2, -71), (2, -22), (2, -17), (2, -33), (3, -71), (3, -2), (4, -71), (4, -2), (5, -2),
             (5, -28), (6, -2), (6, -22), (6, -1001)},
            refused,
        )

    def test_e_as_if_it_had_not_been_called(self):
        for seed in range(700, 730):
            calls = Drawn(seed, few=True).calls(80)
            given = replies(*calls)
            kept = [call for call, answer in zip(calls, given) if answer[0] >= 0]
            expected = [answer for answer in given if answer[0] >= 0]
            self.assertEqual(replies(state(), *kept)[1:], expected)


if __name__ == "__main__":
    unittest.main()
