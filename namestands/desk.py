"""The desk: takes a line of calls and gives back their answers."""

from namestands.book import Book
from namestands.questions import tell_group_name, tell_kind_member, tell_kind_name, tell_status
from namestands.reader import Reader
from namestands.standing import Standing

BEGIN = 0
GENUS = 1
SPECIES = 2
TIE = 3
RULE = 4
KIND = 5
GROUP = 6
GENUS_OF = 7
NAME = 8
STATUS = 9
NAMES = 10


class UnknownCall(ValueError):
    """No call has this number."""


def answers(calls):
    """The answers to all calls of one line, each behind the count of its numbers."""
    book = Book()
    standing = None
    reader = Reader(calls)
    told = []
    while not reader.is_done():
        call = reader.take_number()
        if call <= GROUP:
            answer = [answer_telling(book, call, reader)]
            standing = None
        else:
            # Many questions may follow one another: what they ask for is found once, until the book may change.
            if standing is None:
                standing = Standing(book)
            answer = answer_question(book, standing, call, reader)
        told.append(len(answer))
        told.extend(answer)
    return told


def answer_telling(book, call, reader):
    """The one number answered by a call that may change the book."""
    if call == BEGIN:
        return book.begin()
    if call == GENUS:
        return answer_genus(book, reader)
    if call == SPECIES:
        return answer_species(book, reader)
    if call == TIE:
        return answer_tie(book, reader)
    if call == RULE:
        return answer_rule(book, reader)
    if call == KIND:
        return answer_kind(book, reader)
    if call == GROUP:
        return answer_group(book, reader)
    raise UnknownCall(f"no call has the number {call}")


def answer_question(book, standing, call, reader):
    """The numbers answered by a call that only asks."""
    if call == GENUS_OF:
        return tell_group_name(standing, reader.take_number())
    if call == NAME:
        return tell_kind_name(book, standing, reader.take_number())
    if call == STATUS:
        return tell_status(standing, reader.take_number())
    if call == NAMES:
        return answer_names(standing, reader)
    raise UnknownCall(f"no call has the number {call}")


def answer_genus(book, reader):
    day = reader.take_number()
    word = reader.take_row()
    return book.add_genus(word, day)


def answer_species(book, reader):
    genus = reader.take_number()
    day = reader.take_number()
    specimen = reader.take_number()
    word = reader.take_row()
    return book.add_species(genus, word, day, specimen)


def answer_tie(book, reader):
    genus = reader.take_number()
    species = reader.take_number()
    return book.tie_genus(genus, species)


def answer_rule(book, reader):
    rank = reader.take_number()
    number = reader.take_number()
    ruled = reader.take_number()
    return book.rule_name(rank, number, ruled)


def answer_kind(book, reader):
    specimen = reader.take_number()
    kind = reader.take_number()
    return book.place_specimen(specimen, kind)


def answer_group(book, reader):
    kind = reader.take_number()
    group = reader.take_number()
    return book.place_kind(kind, group)


def answer_names(standing, reader):
    kind = reader.take_number()
    place = reader.take_number()
    return tell_kind_member(standing, kind, place)
