"""What the tests share: calls written down and answered, and a second, slower way to the same answers."""

import re

from shelvesorder.library import answers

CALL_NUMBER = re.compile(
    rb" *([A-Za-z]{1,3})([1-9][0-9]{0,3})(?:\.([0-9]{0,3}[1-9]))?"
    rb"((?: +\.?[A-Za-z][0-9]{0,4}[1-9]){0,3})"
    rb"(?: +([1-9][0-9]{3}))?"
    rb"(?: +[cC]\.([2-9]|[1-9][0-9]))? *"
)


def as_bytes(code):
    return code.encode("ascii") if isinstance(code, str) else bytes(code)


def begin():
    return [0]


def shelf(room):
    return [1, room]


def book(wide, code):
    told = as_bytes(code)
    return [2, wide, len(told)] + list(told)


def drop(code):
    told = as_bytes(code)
    return [3, len(told)] + list(told)


def ask(*calls):
    """The first number of each call's answer; each of these calls answers just one."""
    given = answers([number for call in calls for number in call])
    if given[0::2] != [1] * len(calls):
        raise AssertionError(f"not one number for each call: {given}")
    return given[1::2]


def last(*calls):
    return ask(*calls)[-1]


def expected_number(code):
    """What orders a call number, or None, by a pattern instead of by words."""
    told = as_bytes(code)
    match = CALL_NUMBER.fullmatch(told)
    if match is None or len(told) > 60:
        return None
    letters, number, digits, parts, year, copy = match.groups()
    parts = [part.lstrip(b".").upper() for part in parts.split()]
    return (letters.upper(), int(number), digits or b"", parts, int(year or 0), int(copy or 0))


def expected_shelves(rooms, wides, olds):
    """(how many moved, the shelves), the least of all ways, or None: all ends of each shelf are tried."""
    many = len(wides)
    ways = [None] * many + [(0, [])]
    for place in reversed(range(len(rooms))):
        fuller = []
        for first in range(many + 1):
            found = []
            for end in range(first, many + 1):
                if sum(wides[first:end]) > rooms[place]:
                    break
                if ways[end] is not None:
                    moved = sum(old not in (None, place) for old in olds[first:end])
                    found.append((moved + ways[end][0], [place] * (end - first) + ways[end][1]))
            fuller.append(min(found, default=None))
        ways = fuller
    return ways[0]


class Model:
    """The four calls once more, as plainly as can be."""

    def __init__(self):
        self.rooms = []
        self.books = []

    def begin(self):
        self.__init__()
        return 0

    def shelf(self, room):
        if not 1 <= room <= 2000:
            return -22
        if len(self.rooms) == 8:
            return -12
        self.rooms.append(room)
        return len(self.rooms) - 1

    def book(self, wide, code):
        number = expected_number(code)
        if number is None:
            return -71
        if not 1 <= wide <= 200:
            return -22
        if number in [there[0] for there in self.books]:
            return -17
        if len(self.books) == 40:
            return -12
        books = sorted(self.books + [(number, wide, None)], key=lambda there: there[0])
        way = expected_shelves(self.rooms, [there[1] for there in books], [there[2] for there in books])
        if way is None:
            return -33
        self.books = [(number, wide, place) for (number, wide, old), place in zip(books, way[1])]
        return way[0]

    def drop(self, code):
        number = expected_number(code)
        if number is None:
            return -71
        rest = [there for there in self.books if there[0] != number]
        if len(rest) == len(self.books):
            return -2
        self.books = rest
        return len(rest)

    def ask(self, calls):
        given = []
        for call in calls:
            if call[0] == 0:
                given.append(self.begin())
            elif call[0] == 1:
                given.append(self.shelf(call[1]))
            elif call[0] == 2:
                given.append(self.book(call[1], call[3:]))
            else:
                given.append(self.drop(call[2:]))
        return given
