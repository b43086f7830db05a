"""Calls handed in as numbers, answered as numbers."""

from remade.book import Book
from remade.refusals import NoCall

START = 0
RULE = 1
DROP = 2
MAKE = 3
WORKED = 4

NUMBER_FORM = 0
BYTES_FORM = 1


class CallReader:
    """A list of numbers, and how far it has been read."""

    def __init__(self, calls):
        self.calls = calls
        self.at = 0

    def has_more(self):
        return self.at < len(self.calls)

    def take_number(self):
        number = self.calls[self.at]
        self.at += 1
        return number

    def take_row(self):
        length = self.take_number()
        start = self.at
        self.at += length
        return tuple(self.calls[start:self.at])


def answer_next(book, reader):
    """Does the next call, and gives its answer as the book tells it."""
    call = reader.take_number()
    if call == START:
        return book.mk_start()
    if call == RULE:
        name = reader.take_row()
        return book.mk_rule(name, reader.take_row())
    if call == DROP:
        return book.mk_drop(reader.take_row())
    if call == MAKE:
        return book.mk_make(reader.take_row())
    if call == WORKED:
        return book.mk_worked(reader.take_number())
    raise NoCall()


def in_numbers(answer):
    """An answer with its form ahead of it."""
    if isinstance(answer, int):
        return [NUMBER_FORM, answer]
    return [BYTES_FORM, len(answer)] + list(answer)


def answers(calls):
    """What each of the calls on a new object answers, with how many numbers ahead."""
    book = Book()
    reader = CallReader(calls)
    told = []
    while reader.has_more():
        numbers = in_numbers(answer_next(book, reader))
        told.append(len(numbers))
        told.extend(numbers)
    return told
