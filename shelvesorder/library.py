"""The interface: a list of calls on one new object is answered call by call."""

from shelvesorder.shelves import Shelves

BEGIN = 0
SHELF = 1
BOOK = 2
DROP = 3
FIND = 4
TELL = 5
HELD = 6
STATE = 7


class UnknownCall(ValueError):
    pass


class Reader:
    def __init__(self, calls):
        self.calls = calls
        self.place = 0

    def is_done(self):
        return self.place >= len(self.calls)

    def take_number(self):
        number = self.calls[self.place]
        self.place += 1
        return number

    def take_row(self):
        size = self.take_number()
        row = self.calls[self.place:self.place + size]
        self.place += size
        return row


def answer_change(shelves, call, reader):
    if call == BEGIN:
        return shelves.begin()
    if call == SHELF:
        return shelves.add_shelf(reader.take_number())
    if call == BOOK:
        wide = reader.take_number()
        return shelves.put_book(wide, reader.take_row())
    return shelves.drop_book(reader.take_row())


def answer_question(shelves, call, reader):
    if call == FIND:
        return shelves.find_book(reader.take_row())
    if call == TELL:
        shelf = reader.take_number()
        return shelves.tell_shelf(shelf, reader.take_number())
    if call == HELD:
        shelf = reader.take_number()
        return shelves.hold_shelf(shelf, reader.take_row())
    return shelves.tell_state()


def answer_call(shelves, reader):
    call = reader.take_number()
    if call < BEGIN or call > STATE:
        raise UnknownCall("no such call")
    if call <= DROP:
        return [answer_change(shelves, call, reader)]
    return answer_question(shelves, call, reader)


def answers(calls):
    shelves = Shelves()
    reader = Reader(calls)
    given = []
    while not reader.is_done():
        answer = answer_call(shelves, reader)
        given.append(len(answer))
        given.extend(answer)
    return given
