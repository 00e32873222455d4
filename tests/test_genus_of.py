"""Point 5: genus_of, and what a group's name is."""

import unittest

from tests.lines import TOP, ask, ask_behind, genus, genus_of, group, kind, rule, species, status, tie

# Two genera with their types in one group, though in different kinds.
CANIS_AND_VULPES = [
    genus("Canis", 10), genus("Vulpes", 20),
    species(0, "lupus", 30, 5), species(1, "corsac", 30, 6),
    tie(0, 0), tie(1, 1),
    kind(5, 7), kind(6, 8), group(7, 3), group(8, 3),
]


class GenusOfTest(unittest.TestCase):

    def told(self, *more):
        return ask_behind(CANIS_AND_VULPES + list(more), genus_of(3))[0]

    def test_group(self):
        told = ask(genus_of(0), genus_of(62), genus_of(63), genus_of(64), genus_of(65), genus_of(TOP))
        self.assertEqual(told, [0, 0, 0, -22, -22, -22])

    def test_no_group_has_a_name_where_there_are_no_names(self):
        self.assertEqual(ask(*[genus_of(number) for number in range(64)]), [0] * 64)

    def test_an_empty_group_has_no_name(self):
        self.assertEqual(ask_behind(CANIS_AND_VULPES, genus_of(2), genus_of(4)), [[0], [0]])

    def test_the_genus_that_has_priority(self):
        self.assertEqual(self.told(), [1, 0])

    def test_each_group_has_its_own(self):
        told = CANIS_AND_VULPES + [group(8, 63)]
        self.assertEqual(ask_behind(told, genus_of(3), genus_of(63)), [[1, 0], [1, 1]])

    def test_a_genus_without_a_type_is_in_no_group(self):
        told = [genus("Canis"), species(0, "lupus", 1, 5), kind(5, 7), group(7, 3)]
        self.assertEqual(ask_behind(told, genus_of(3)), [[0]])
        self.assertEqual(ask_behind(told + [tie(0, 0)], genus_of(3)), [[1, 0]])

    def test_an_earlier_genus_without_a_type_is_passed_over(self):
        self.assertEqual(self.told(genus("Lycaon", 0)), [1, 0])

    def test_a_genus_is_where_its_type_is_not_where_its_other_species_are(self):
        more = [species(0, "aureus", 1, 9), kind(9, 10), group(10, 11)]
        self.assertEqual(ask_behind(CANIS_AND_VULPES + more, genus_of(3), genus_of(11)), [[1, 0], [0]])

    def test_the_specimen_of_the_type_is_moved(self):
        told = CANIS_AND_VULPES + [group(9, 12), kind(5, 9)]
        self.assertEqual(ask_behind(told, genus_of(3), genus_of(12)), [[1, 1], [1, 0]])

    def test_the_specimen_of_the_type_is_in_no_kind(self):
        self.assertEqual(self.told(kind(5, 256)), [1, 1])
        self.assertEqual(self.told(kind(5, 256), kind(6, 256)), [0])

    def test_the_kind_of_the_type_is_in_no_group(self):
        self.assertEqual(self.told(group(7, 64)), [1, 1])
        self.assertEqual(self.told(group(7, 64), group(8, 64)), [0])

    def test_a_rejected_genus_is_passed_over(self):
        self.assertEqual(self.told(rule(0, 0, 1)), [1, 1])
        self.assertEqual(self.told(rule(0, 0, 1), rule(0, 1, 1)), [0])

    def test_a_ruling_taken_back_counts_no_more(self):
        self.assertEqual(self.told(rule(0, 0, 1), rule(0, 0, 0)), [1, 0])
        self.assertEqual(self.told(rule(0, 1, 2), rule(0, 1, 0)), [1, 0])

    def test_a_later_genus_of_the_same_word_names_no_group(self):
        # The other Canis is told later and is later, and its type is the only one in group 20.
        more = [genus("Canis", 11), species(2, "aureus", 40, 9), tie(2, 2), kind(9, 10), group(10, 20)]
        self.assertEqual(ask_behind(CANIS_AND_VULPES + more, genus_of(3), genus_of(20)), [[1, 0], [0]])

    def test_an_earlier_genus_of_the_same_word_takes_the_name_even_from_elsewhere(self):
        more = [genus("Canis", 9), species(2, "aureus", 40, 9), tie(2, 2), kind(9, 10), group(10, 20)]
        self.assertEqual(ask_behind(CANIS_AND_VULPES + more, genus_of(3), genus_of(20)), [[1, 1], [1, 2]])

    def test_an_earlier_genus_of_the_same_word_without_a_type_takes_the_name_too(self):
        self.assertEqual(self.told(genus("Canis", 9)), [1, 1])

    def test_a_rejected_genus_of_the_same_word_takes_no_name(self):
        self.assertEqual(self.told(genus("Canis", 9), rule(0, 2, 1)), [1, 0])

    def test_a_rejection_taken_back_takes_the_name_again(self):
        self.assertEqual(self.told(genus("Canis", 9), rule(0, 2, 1), rule(0, 2, 0)), [1, 1])

    def test_the_later_genus_of_one_word_stands_when_the_earlier_is_rejected(self):
        more = [genus("Canis", 11), tie(2, 0), rule(0, 0, 1)]
        self.assertEqual(self.told(*more), [1, 2])

    def test_two_genera_of_one_word_and_one_type(self):
        self.assertEqual(self.told(genus("Canis", 11), tie(2, 0)), [1, 0])
        self.assertEqual(self.told(genus("Canis", 9), tie(2, 0)), [1, 2])

    def test_words_alike_in_part_are_other_words(self):
        for word in ("Canisa", "Cani", "Canit"):
            self.assertEqual(self.told(genus(word, 9)), [1, 0])

    def test_what_is_ruled_of_the_type_does_not_matter(self):
        for ruled in (0, 1, 2):
            self.assertEqual(self.told(rule(1, 0, ruled)), [1, 0])

    def test_a_type_that_is_a_homonym_is_a_type(self):
        # Species 1 is a homonym from birth.
        told = [genus("Canis", 10), species(0, "lupus", 30, 5), species(0, "lupus", 31, 6), tie(0, 1),
                kind(6, 8), group(8, 3)]
        self.assertEqual(ask_behind(told, status(1), genus_of(3)), [[2], [1, 0]])

    def test_species_0_and_genus_0_are_like_any_other(self):
        told = [genus("Canis", 10), species(0, "lupus", 30, 0), tie(0, 0), kind(0, 0), group(0, 0)]
        self.assertEqual(ask_behind(told, genus_of(0)), [[1, 0]])

    def test_last_specimen_kind_and_group(self):
        told = [genus("Canis", 10), species(0, "lupus", 30, 1023), tie(0, 0), kind(1023, 255), group(255, 63)]
        self.assertEqual(ask_behind(told, genus_of(63)), [[1, 0]])


if __name__ == "__main__":
    unittest.main()
