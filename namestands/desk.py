"""The desk: takes a line of calls and gives back their answers."""

from namestands.book import Book
from namestands.reader import Reader

BEGIN = 0
GENUS = 1
SPECIES = 2
TIE = 3
RULE = 4
KIND = 5


class UnknownCall(ValueError):
    """No call has this number."""


def answers(calls):
    """The answers to all calls of one line, each behind the count of its numbers."""
    book = Book()
    reader = Reader(calls)
    told = []
    while not reader.is_done():
        answer = answer_call(book, reader)
        told.append(len(answer))
        told.extend(answer)
    return told


def answer_call(book, reader):
    call = reader.take_number()
    if call == BEGIN:
        return [book.begin()]
    if call == GENUS:
        return [answer_genus(book, reader)]
    if call == SPECIES:
        return [answer_species(book, reader)]
    if call == TIE:
        return [answer_tie(book, reader)]
    if call == RULE:
        return [answer_rule(book, reader)]
    if call == KIND:
        return [answer_kind(book, reader)]
    raise UnknownCall(f"no call has the number {call}")


def answer_genus(book, reader):
    day = reader.take_number()
    word = reader.take_row()
    return book.add_genus(word, day)


def answer_species(book, reader):
    genus = reader.take_number()
    day = reader.take_number()
    specimen = reader.take_number()
    word = reader.take_row()
    return book.add_species(genus, word, day, specimen)


def answer_tie(book, reader):
    genus = reader.take_number()
    species = reader.take_number()
    return book.tie_genus(genus, species)


def answer_rule(book, reader):
    rank = reader.take_number()
    number = reader.take_number()
    ruled = reader.take_number()
    return book.rule_name(rank, number, ruled)


def answer_kind(book, reader):
    specimen = reader.take_number()
    kind = reader.take_number()
    return book.place_specimen(specimen, kind)
