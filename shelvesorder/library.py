"""The interface: a list of calls on one new object is answered call by call."""

from shelvesorder.shelves import Shelves

BEGIN = 0
SHELF = 1
BOOK = 2
DROP = 3


class UnknownCall(ValueError):
    pass


class Reader:
    def __init__(self, calls):
        self.calls = calls
        self.place = 0

    def is_done(self):
        return self.place >= len(self.calls)

    def take_number(self):
        number = self.calls[self.place]
        self.place += 1
        return number

    def take_row(self):
        size = self.take_number()
        row = self.calls[self.place:self.place + size]
        self.place += size
        return row


def answer_call(shelves, reader):
    call = reader.take_number()
    if call == BEGIN:
        return [shelves.begin()]
    if call == SHELF:
        return [shelves.add_shelf(reader.take_number())]
    if call == BOOK:
        wide = reader.take_number()
        return [shelves.put_book(wide, reader.take_row())]
    if call == DROP:
        return [shelves.drop_book(reader.take_row())]
    raise UnknownCall("no such call")


def answers(calls):
    shelves = Shelves()
    reader = Reader(calls)
    given = []
    while not reader.is_done():
        answer = answer_call(shelves, reader)
        given.append(len(answer))
        given.extend(answer)
    return given
