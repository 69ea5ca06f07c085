"""The shelves and the books on them, and what each call does to them and answers."""

from shelvesorder.callnumber import read_call_number, write_call_number
from shelvesorder.placing import count_moved, place_books
from shelvesorder.reading import LINE_END, hold_against, read_lines

NOT_THERE = -2
TOO_MANY = -12
THERE_ALREADY = -17
OUT_OF_RANGE = -22
TOO_LONG = -28
NO_PLACE = -33
NO_CALL_NUMBER = -71
# The k-th line that is no call number is told as this less k.
BAD_LINE = -1000

MOST_SHELVES = 8
MOST_BOOKS = 40
MOST_ROOM = 2000
MOST_WIDE = 200
MOST_TEXT = 4096
MOST_LINES = 40


# line: its call number as it is told, kept so that it's written once. shelf is None for a book that isn't
# put in yet.
class Book:
    def __init__(self, number, line, wide, shelf):
        self.number = number
        self.line = line
        self.wide = wide
        self.shelf = shelf


# What changes the shelves answers one number; what only asks answers a list of numbers.
class Shelves:
    def __init__(self):
        self.rooms = []
        self.books = []

    def begin(self):
        self.rooms = []
        self.books = []
        return 0

    def add_shelf(self, room):
        if room < 1 or room > MOST_ROOM:
            return OUT_OF_RANGE
        if len(self.rooms) == MOST_SHELVES:
            return TOO_MANY
        self.rooms.append(room)
        return len(self.rooms) - 1

    def has_book(self, number):
        return any([book.number == number for book in self.books])

    def put_book(self, wide, code):
        number = read_call_number(code)
        if number is None:
            return NO_CALL_NUMBER
        if wide < 1 or wide > MOST_WIDE:
            return OUT_OF_RANGE
        if self.has_book(number):
            return THERE_ALREADY
        if len(self.books) == MOST_BOOKS:
            return TOO_MANY
        new = Book(number, write_call_number(number) + [LINE_END], wide, None)
        return self.put_anew(sorted(self.books + [new], key=lambda book: book.number))

    # books: those that are there and the new one, in order. Nothing is kept of them unless all find a place.
    def put_anew(self, books):
        olds = [book.shelf for book in books]
        shelves = place_books(self.rooms, [book.wide for book in books], olds)
        if shelves is None:
            return NO_PLACE
        self.books = [Book(book.number, book.line, book.wide, shelf) for book, shelf in zip(books, shelves)]
        return count_moved(olds, shelves)

    def drop_book(self, code):
        number = read_call_number(code)
        if number is None:
            return NO_CALL_NUMBER
        if not self.has_book(number):
            return NOT_THERE
        self.books = [book for book in self.books if book.number != number]
        return len(self.books)

    def has_shelf(self, shelf):
        return shelf < len(self.rooms)

    def books_on(self, shelf):
        return [book for book in self.books if book.shelf == shelf]

    def find_book(self, code):
        number = read_call_number(code)
        if number is None:
            return [NO_CALL_NUMBER]
        for book in self.books:
            if book.number == number:
                return [book.shelf, self.count_before(book)]
        return [NOT_THERE]

    def count_before(self, found):
        return len([book for book in self.books_on(found.shelf) if book.number < found.number])

    def tell_shelf(self, shelf, most):
        if not self.has_shelf(shelf):
            return [NOT_THERE]
        told = []
        for book in self.books_on(shelf):
            told.extend(book.line)
        if len(told) > most:
            return [TOO_LONG]
        return [len(told)] + told

    def hold_shelf(self, shelf, text):
        if not self.has_shelf(shelf):
            return [NOT_THERE]
        if len(text) > MOST_TEXT:
            return [OUT_OF_RANGE]
        told = read_lines(text)
        if None in told:
            return [BAD_LINE - 1 - told.index(None)]
        if len(told) > MOST_LINES:
            return [OUT_OF_RANGE]
        return [0] + hold_against([book.number for book in self.books_on(shelf)], told)

    def tell_state(self):
        return [len(self.books)] + [len(self.books_on(shelf)) for shelf in range(len(self.rooms))]
