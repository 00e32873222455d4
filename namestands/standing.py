"""What follows from a book as it is now: which names stand, and the status of each species."""

from namestands.book import NO_GROUP, NO_KIND, REJECTED
from namestands.priority import by_priority

KINDS_WORD = 0
OTHER_IS_WORD = 1
HOMONYM_FROM_BIRTH = 2
HOMONYM_IN_GROUP = 3
IS_REJECTED = 4
NOWHERE = 5


# Names are gone through in order of priority. So whoever comes to a word, a group or a kind that no good name
# has come to before has priority over all that come later, and no two names need be compared once more.


def find_group_names(book):
    """The number of the genus that is a group's name, for each group that has one."""
    good_words = {}
    names = {}
    for number in by_priority(book.genera):
        genus = book.genera[number]
        if genus.ruling == REJECTED or genus.word in good_words:
            continue
        good_words[genus.word] = True
        group = book.group_of_genus(number)
        if group != NO_GROUP and group not in names:
            names[group] = number
    return names


def find_kind_members(book, order):
    """All species in a kind, in this order, for each kind that has some."""
    members = {}
    for number in order:
        kind = book.kind_of_species(number)
        if kind != NO_KIND:
            members.setdefault(kind, []).append(number)
    return members


class Judge:
    """Is shown all species, those that have priority first, and remembers what the good ones among them took."""

    def __init__(self, book):
        self.book = book
        self.births_taken = {}
        self.group_words_taken = {}
        self.words_found = {}

    def find_status(self, number):
        species = self.book.species[number]
        if species.ruling == REJECTED:
            return IS_REJECTED
        birth = (self.book.birth_word(number), species.word)
        if birth in self.births_taken:
            return HOMONYM_FROM_BIRTH
        self.births_taken[birth] = True
        group = self.book.group_of_species(number)
        if group == NO_GROUP:
            return NOWHERE
        if (group, species.word) in self.group_words_taken:
            return HOMONYM_IN_GROUP
        self.group_words_taken[(group, species.word)] = True
        kind = self.book.kind_of_species(number)
        if kind in self.words_found:
            return OTHER_IS_WORD
        self.words_found[kind] = number
        return KINDS_WORD


class Standing:
    """The names of groups, the words and the species of kinds, and all statuses; a changed book needs a new one."""

    def __init__(self, book):
        self.group_names = find_group_names(book)
        order = by_priority(book.species)
        self.kind_members = find_kind_members(book, order)
        judge = Judge(book)
        self.statuses = [None] * len(order)
        for number in order:
            self.statuses[number] = judge.find_status(number)
        self.kind_words = judge.words_found
