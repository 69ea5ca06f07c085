"""The shelves and the books on them, and what each call does to them and answers."""

from shelvesorder.callnumber import read_call_number
from shelvesorder.placing import count_moved, place_books

NOT_THERE = -2
TOO_MANY = -12
THERE_ALREADY = -17
OUT_OF_RANGE = -22
NO_PLACE = -33
NO_CALL_NUMBER = -71

MOST_SHELVES = 8
MOST_BOOKS = 40
MOST_ROOM = 2000
MOST_WIDE = 200


# shelf is None for a book that isn't put in yet.
class Book:
    def __init__(self, number, wide, shelf):
        self.number = number
        self.wide = wide
        self.shelf = shelf


class Shelves:
    def __init__(self):
        self.rooms = []
        self.books = []

    def begin(self):
        self.rooms = []
        self.books = []
        return 0

    def add_shelf(self, room):
        if room < 1 or room > MOST_ROOM:
            return OUT_OF_RANGE
        if len(self.rooms) == MOST_SHELVES:
            return TOO_MANY
        self.rooms.append(room)
        return len(self.rooms) - 1

    def has_book(self, number):
        return any([book.number == number for book in self.books])

    def put_book(self, wide, code):
        number = read_call_number(code)
        if number is None:
            return NO_CALL_NUMBER
        if wide < 1 or wide > MOST_WIDE:
            return OUT_OF_RANGE
        if self.has_book(number):
            return THERE_ALREADY
        if len(self.books) == MOST_BOOKS:
            return TOO_MANY
        return self.put_anew(sorted(self.books + [Book(number, wide, None)], key=lambda book: book.number))

    # books: those that are there and the new one, in order. Nothing is kept of them unless all find a place.
    def put_anew(self, books):
        olds = [book.shelf for book in books]
        shelves = place_books(self.rooms, [book.wide for book in books], olds)
        if shelves is None:
            return NO_PLACE
        self.books = [Book(book.number, book.wide, shelf) for book, shelf in zip(books, shelves)]
        return count_moved(olds, shelves)

    def drop_book(self, code):
        number = read_call_number(code)
        if number is None:
            return NO_CALL_NUMBER
        if not self.has_book(number):
            return NOT_THERE
        self.books = [book for book in self.books if book.number != number]
        return len(self.books)
