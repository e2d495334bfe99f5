"""Calls handed in as one list of whole numbers, answered as one such list."""

from headplaces.session import Session

BEGIN = 1
RUN = 2
PAGES = 3
NAME = 4
PAGE = 5
WRITE = 6
READ = 7
FORM = 8
TEXT = 9
LIST = 10
HAS = 11


class UnknownCall(ValueError):
    pass


# What is handed in is read by a position, so that it is never changed.
class Reader:
    def __init__(self, calls):
        self.calls = calls
        self.position = 0

    def at_end(self):
        return self.position == len(self.calls)

    def take_number(self):
        number = self.calls[self.position]
        self.position = self.position + 1
        return number

    def take_row(self):
        length = self.take_number()
        row = self.calls[self.position:self.position + length]
        self.position = self.position + length
        return row


def answer_begin(session, reader):
    way = reader.take_number()
    joins = reader.take_number()
    drops = reader.take_number()
    return session.begin(way, joins, drops)


def answer_run(session, reader):
    style = reader.take_number()
    first = reader.take_number()
    count = reader.take_number()
    prefix = reader.take_row()
    return session.run(style, first, count, prefix)


def answer_has(session, reader):
    index = reader.take_number()
    return session.has(index, reader.take_row())


def answer_call(session, reader):
    call = reader.take_number()
    if call == BEGIN:
        return answer_begin(session, reader)
    if call == RUN:
        return answer_run(session, reader)
    if call == PAGES:
        return session.pages()
    if call == NAME:
        return session.name(reader.take_number())
    if call == PAGE:
        return session.page(reader.take_row())
    if call == WRITE:
        return session.write(reader.take_row())
    if call == READ:
        return session.read(reader.take_row())
    if call == FORM:
        return session.form(reader.take_row())
    if call == TEXT:
        return session.text(reader.take_row())
    if call == LIST:
        return session.places_told(reader.take_row())
    if call == HAS:
        return answer_has(session, reader)
    raise UnknownCall(f"no call has the number {call}")


def answers(calls):
    session = Session()
    reader = Reader(calls)
    told = []
    while not reader.at_end():
        answer = answer_call(session, reader)
        told.append(len(answer))
        told.extend(answer)
    return told
