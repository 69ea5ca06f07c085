"""What the tests share: calls written down and answered, and a second, slower way to the same answers."""

import re

from shelvesorder.library import answers

CALL_NUMBER = re.compile(
    rb" *([A-Za-z]{1,3})([1-9][0-9]{0,3})(?:\.([0-9]{0,3}[1-9]))?"
    rb"((?: +\.?[A-Za-z][0-9]{0,4}[1-9]){0,3})"
    rb"(?: +([1-9][0-9]{3}))?"
    rb"(?: +[cC]\.([2-9]|[1-9][0-9]))? *"
)


def as_bytes(code):
    return code.encode("ascii") if isinstance(code, str) else bytes(code)


def begin():
    return [0]


def shelf(room):
    return [1, room]


def book(wide, code):
    told = as_bytes(code)
    return [2, wide, len(told)] + list(told)


def drop(code):
    told = as_bytes(code)
    return [3, len(told)] + list(told)


def find(code):
    told = as_bytes(code)
    return [4, len(told)] + list(told)


def tell(place, most=4294967295):
    return [5, place, most]


def held(place, text):
    told = as_bytes(text)
    return [6, place, len(told)] + list(told)


def state():
    return [7]


def joined(*calls):
    return [number for call in calls for number in call]


def parted(given):
    """What answers gives back, as a list of numbers for each call."""
    parts = []
    place = 0
    while place < len(given):
        end = place + 1 + given[place]
        if given[place] < 1 or end > len(given):
            raise AssertionError(f"no such count at {place}: {given}")
        parts.append(given[place + 1:end])
        place = end
    return parts


def replies(*calls):
    """All numbers of each call's answer."""
    parts = parted(answers(joined(*calls)))
    if len(parts) != len(calls):
        raise AssertionError(f"not one answer for each call: {parts}")
    return parts


def reply(*calls):
    return replies(*calls)[-1]


def told_text(answer):
    """The text that tell answered."""
    if answer[0] != len(answer) - 1:
        raise AssertionError(f"not as many bytes as told: {answer}")
    return bytes(answer[1:]).decode("ascii")


def ask(*calls):
    """The first number of each call's answer; each of these calls answers just one."""
    given = answers(joined(*calls))
    if given[0::2] != [1] * len(calls):
        raise AssertionError(f"not one number for each call: {given}")
    return given[1::2]


def last(*calls):
    return ask(*calls)[-1]


def expected_number(code):
    """What orders a call number, or None, by a pattern instead of by words."""
    told = as_bytes(code)
    match = CALL_NUMBER.fullmatch(told)
    if match is None or len(told) > 60:
        return None
    letters, number, digits, parts, year, copy = match.groups()
    parts = [part.lstrip(b".").upper() for part in parts.split()]
    return (letters.upper(), int(number), digits or b"", parts, int(year or 0), int(copy or 0))


def expected_line(number):
    """A call number, as expected_number gives it, written and with a byte 10."""
    letters, first, digits, parts, year, copy = number
    words = [letters.decode() + str(first) + ("." + digits.decode() if digits else "")]
    words += ["." + part.decode() for part in parts]
    words += [str(year)] if year else []
    words += [f"c.{copy}"] if copy else []
    return " ".join(words).encode() + b"\n"


def expected_astray(row):
    """How many are astray: of each number, how many can stay if it's the last one."""
    stay = []
    for k, number in enumerate(row):
        stay.append(1 + max((stay[m] for m in range(k) if row[m] <= number), default=0))
    return len(row) - max(stay, default=0)


def expected_shelves(rooms, wides, olds):
    """(how many moved, the shelves), the least of all ways, or None: all ends of each shelf are tried."""
    many = len(wides)
    ways = [None] * many + [(0, [])]
    for place in reversed(range(len(rooms))):
        fuller = []
        for first in range(many + 1):
            found = []
            for end in range(first, many + 1):
                if sum(wides[first:end]) > rooms[place]:
                    break
                if ways[end] is not None:
                    moved = sum(old not in (None, place) for old in olds[first:end])
                    found.append((moved + ways[end][0], [place] * (end - first) + ways[end][1]))
            fuller.append(min(found, default=None))
        ways = fuller
    return ways[0]


class Model:
    """The eight calls once more, as plainly as can be."""

    def __init__(self):
        self.rooms = []
        self.books = []

    def begin(self):
        self.__init__()
        return 0

    def shelf(self, room):
        if not 1 <= room <= 2000:
            return -22
        if len(self.rooms) == 8:
            return -12
        self.rooms.append(room)
        return len(self.rooms) - 1

    def book(self, wide, code):
        number = expected_number(code)
        if number is None:
            return -71
        if not 1 <= wide <= 200:
            return -22
        if number in [there[0] for there in self.books]:
            return -17
        if len(self.books) == 40:
            return -12
        books = sorted(self.books + [(number, wide, None)], key=lambda there: there[0])
        way = expected_shelves(self.rooms, [there[1] for there in books], [there[2] for there in books])
        if way is None:
            return -33
        self.books = [(number, wide, place) for (number, wide, old), place in zip(books, way[1])]
        return way[0]

    def drop(self, code):
        number = expected_number(code)
        if number is None:
            return -71
        rest = [there for there in self.books if there[0] != number]
        if len(rest) == len(self.books):
            return -2
        self.books = rest
        return len(rest)

    def on(self, place):
        return [there[0] for there in self.books if there[2] == place]

    def find(self, code):
        number = expected_number(code)
        if number is None:
            return [-71]
        for there in self.books:
            if there[0] == number:
                return [there[2], self.on(there[2]).index(number)]
        return [-2]

    def tell(self, place, most):
        if place >= len(self.rooms):
            return [-2]
        text = b"".join(expected_line(number) for number in self.on(place))
        return [-28] if len(text) > most else [len(text), *text]

    def held(self, place, text):
        if place >= len(self.rooms):
            return [-2]
        if len(text) > 4096:
            return [-22]
        numbers = [expected_number(line) for line in bytes(text).split(b"\n") if line != b""]
        for k, number in enumerate(numbers, start=1):
            if number is None:
                return [-1000 - k]
        if len(numbers) > 40:
            return [-22]
        here = self.on(place)
        row = [here.index(number) for number in numbers if number in here]
        lacking = [number for number in here if number not in numbers]
        strange = [number for number in numbers if number not in here]
        return [0, len(lacking), len(strange), expected_astray(row)]

    def state(self):
        return [len(self.books)] + [len(self.on(place)) for place in range(len(self.rooms))]

    def reply(self, call):
        if call[0] == 0:
            return [self.begin()]
        if call[0] == 1:
            return [self.shelf(call[1])]
        if call[0] == 2:
            return [self.book(call[1], call[3:])]
        if call[0] == 3:
            return [self.drop(call[2:])]
        if call[0] == 4:
            return self.find(call[2:])
        if call[0] == 5:
            return self.tell(call[1], call[2])
        if call[0] == 6:
            return self.held(call[1], call[3:])
        return self.state()

    def replies(self, calls):
        return [self.reply(call) for call in calls]

    def ask(self, calls):
        return [answer for answer, in self.replies(calls)]
