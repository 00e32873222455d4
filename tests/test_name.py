"""Point 5: name, and what a kind's word and its name are."""

import unittest

from namestands.desk import answers
from tests.lines import (
    TOP, ask, ask_behind, genus, genus_of, group, kind, line, name, rule, species, status, tie, whole_name)

# In kind 7 two species, in kind 8 one; both kinds are in group 3.
WOLVES = [
    genus("Canis", 10), species(0, "lupus", 30, 5), species(0, "niger", 40, 6), species(0, "aureus", 50, 9),
    tie(0, 0), kind(5, 7), kind(6, 7), kind(9, 8), group(7, 3), group(8, 3),
]
LUPUS = whole_name(0, 0, "Canis", "lupus")
NIGER = whole_name(0, 1, "Canis", "niger")
AUREUS = whole_name(0, 2, "Canis", "aureus")


class NameTest(unittest.TestCase):

    def told(self, *more):
        return ask_behind(WOLVES + list(more), name(7), name(8))

    def test_kind(self):
        told = ask(name(0), name(254), name(255), name(256), name(257), name(TOP))
        self.assertEqual(told, [0, 0, 0, -22, -22, -22])

    def test_number_by_number_as_the_document_writes_it(self):
        calls = line(genus("Ab", 1), genus("Cde", 1), species(1, "wx", 1, 5), species(1, "xyzz", 1, 6), tie(1, 0),
                     kind(6, 255), kind(5, 0), group(255, 63), group(0, 63), name(255))
        told = [1, 0, 1, 0, 1, 1, 1, 0, 1, 1] + [1, 0] * 5
        self.assertEqual(answers(calls), told + [12, 1, 1, 1, 3, 4, 67, 100, 101, 120, 121, 122, 122])

    def test_longest_and_shortest_words(self):
        for genus_word in ("Ab", "A" + "z" * 23):
            for species_word in ("cd", "y" * 24):
                told = [genus(genus_word), species(0, species_word, 1, 5), tie(0, 0), kind(5, 7), group(7, 3)]
                self.assertEqual(ask_behind(told, name(7)), [whole_name(0, 0, genus_word, species_word)])

    def test_names_of_kinds(self):
        self.assertEqual(self.told(), [LUPUS, AUREUS])

    def test_an_empty_kind_has_no_name(self):
        self.assertEqual(ask_behind(WOLVES + [group(9, 3)], name(9), name(10), name(0), name(255)), [[0]] * 4)

    def test_a_word_without_a_group_name_is_no_name(self):
        # Kind 8 is moved to a group that has no genus: it keeps its word, but has no name.
        told = WOLVES + [group(8, 4)]
        self.assertEqual(ask_behind(told, name(8), status(2), genus_of(4)), [[0], [0], [0]])

    def test_a_group_name_without_a_word_is_no_name(self):
        told = WOLVES + [kind(5, 8), rule(1, 1, 1)]
        self.assertEqual(ask_behind(told, name(7), genus_of(3)), [[0], [1, 0]])

    def test_neither_group_nor_name(self):
        self.assertEqual(self.told(group(7, 64), group(8, 64)), [[0], [0]])

    def test_the_genus_is_that_of_the_group_not_that_of_publication(self):
        told = [genus("Canis", 10), genus("Vulpes", 20), species(0, "lupus", 30, 5), species(1, "corsac", 40, 6),
                tie(0, 0), tie(1, 1), kind(5, 7), kind(6, 8), group(7, 3), group(8, 3)]
        self.assertEqual(ask_behind(told, name(8)), [whole_name(0, 1, "Canis", "corsac")])
        self.assertEqual(ask_behind(told + [group(8, 4)], name(8)), [whole_name(1, 1, "Vulpes", "corsac")])

    def test_a_specimen_is_moved_to_another_kind(self):
        self.assertEqual(self.told(kind(5, 8)), [NIGER, LUPUS])

    def test_a_specimen_is_moved_to_a_kind_that_was_empty(self):
        told = WOLVES + [kind(5, 9), group(9, 3)]
        self.assertEqual(ask_behind(told, name(7), name(9), name(8)), [NIGER, LUPUS, AUREUS])

    def test_a_specimen_is_in_no_kind_any_more(self):
        # The genus loses its type's place with it, so kinds have words but no names until another genus comes.
        told = WOLVES + [kind(5, 256)]
        self.assertEqual(ask_behind(told, name(7), status(1), name(8)), [[0], [0], [0]])
        told = WOLVES + [kind(6, 256)]
        self.assertEqual(ask_behind(told, name(7), status(1)), [LUPUS, [5]])

    def test_two_kinds_become_one_and_two_again(self):
        together = WOLVES + [kind(9, 7)]
        self.assertEqual(ask_behind(together, name(7), name(8)), [LUPUS, [0]])
        self.assertEqual(ask_behind(together + [kind(9, 8)], name(7), name(8)), [LUPUS, AUREUS])

    def test_a_kind_is_moved_to_another_group(self):
        more = [genus("Lycaon", 1), species(1, "pictus", 60, 10), tie(1, 3), kind(10, 9), group(9, 4), group(8, 4)]
        told = ask_behind(WOLVES + more, name(7), name(8), name(9))
        self.assertEqual(told, [LUPUS, whole_name(1, 2, "Lycaon", "aureus"), whole_name(1, 3, "Lycaon", "pictus")])

    def test_a_rejected_species_is_not_a_kinds_word(self):
        self.assertEqual(self.told(rule(1, 0, 1)), [NIGER, AUREUS])
        self.assertEqual(self.told(rule(1, 0, 1), rule(1, 1, 1)), [[0], AUREUS])

    def test_a_conserved_species_is_the_word_ahead_of_an_earlier_one(self):
        self.assertEqual(self.told(rule(1, 1, 2)), [NIGER, AUREUS])

    def test_a_ruling_taken_back_counts_no_more(self):
        for ruled in (1, 2):
            for number in (0, 1):
                self.assertEqual(self.told(rule(1, number, ruled), rule(1, number, 0)), [LUPUS, AUREUS])

    def test_a_homonym_from_birth_is_not_a_kinds_word(self):
        # An earlier lupus of Canis, whose specimen is in no kind.
        self.assertEqual(self.told(species(0, "lupus", 29, 20)), [NIGER, AUREUS])

    def test_a_homonym_in_its_group_is_not_a_kinds_word(self):
        # An earlier aureus of another genus in kind 9 of the same group; in another group it doesn't matter.
        more = [genus("Lupulella", 99), species(1, "aureus", 49, 20), kind(20, 9), group(9, 3)]
        told = ask_behind(WOLVES + more, name(8), name(9))
        self.assertEqual(told, [[0], whole_name(0, 3, "Canis", "aureus")])
        told = ask_behind(WOLVES + more + [group(9, 4)], name(8), name(9))
        self.assertEqual(told, [AUREUS, [0]])

    def test_a_kind_whose_first_word_is_a_homonym_has_the_next_one(self):
        more = [genus("Lupulella", 99), species(1, "lupus", 29, 20), kind(20, 9), group(9, 3)]
        told = ask_behind(WOLVES + more, name(7), name(8), name(9))
        self.assertEqual(told, [NIGER, AUREUS, whole_name(0, 3, "Canis", "lupus")])

    def test_a_kind_beside_no_genus_gets_its_name_when_one_comes(self):
        told = [genus("Canis"), species(0, "lupus", 1, 5), kind(5, 7), group(7, 3)]
        self.assertEqual(ask_behind(told, name(7)), [[0]])
        self.assertEqual(ask_behind(told + [tie(0, 0)], name(7)), [LUPUS])

    def test_asking_changes_nothing(self):
        asked = [name(7), genus_of(3), status(1), name(8), [10, 7, 1]]
        once = ask_behind(WOLVES, *asked)
        self.assertEqual(ask_behind(WOLVES, *asked * 3), once * 3)

    def test_each_change_is_seen_by_the_next_question(self):
        calls = [rule(1, 0, 1), name(7), rule(1, 0, 0), name(7), kind(5, 8), name(7), kind(5, 7), name(7),
                 group(7, 64), name(7), group(7, 3), name(7), rule(0, 0, 1), name(7), rule(0, 0, 0), name(7),
                 species(0, "ater", 1, 6), name(7), genus("Canis", 1), name(7), tie(1, 0), name(7), [0], name(7)]
        told = ask_behind(WOLVES, *calls)[1::2]
        ater = whole_name(0, 3, "Canis", "ater")
        later = whole_name(1, 3, "Canis", "ater")
        self.assertEqual(told, [NIGER, LUPUS, NIGER, LUPUS, [0], LUPUS, [0], LUPUS, ater, [0], later, [0]])


if __name__ == "__main__":
    unittest.main()
