"""Point 6: status, and what a good species and a homonym are."""

import unittest

from tests.lines import TOP, ask, ask_behind, genus, group, kind, many_species, rule, species, status, tie

# Canis, Felis and a second Canis; specimens 0 to 4 are in kinds 10 to 14, of which 10, 11 and 12 are in group 3,
# 13 is in group 4, 14 in none; specimen 5 is in no kind.
PLACES = [
    genus("Canis", 10), genus("Felis", 10), genus("Canis", 50),
    kind(0, 10), kind(1, 11), kind(2, 12), kind(3, 13), kind(4, 14),
    group(10, 3), group(11, 3), group(12, 3), group(13, 4),
]


class StatusTest(unittest.TestCase):

    def told(self, *more):
        """The statuses of all species that these calls tell of, behind the places."""
        how_many = len([call for call in more if call[0] == 2])
        parts = ask_behind(PLACES + list(more), *[status(number) for number in range(how_many)])
        for part in parts:
            self.assertEqual(len(part), 1)
        return [part[0] for part in parts]

    def test_no_such_species(self):
        self.assertEqual(ask(status(0), status(1), status(TOP)), [-2, -2, -2])
        told = ask(genus("Canis"), genus("Felis"), species(0, "lupus"), status(0), status(1), status(TOP))
        self.assertEqual(told[3:], [5, -2, -2])

    def test_the_last_of_1024(self):
        told = ask(genus("Canis"), *many_species(1024), kind(0, 0), group(0, 0), status(1023), status(1024))
        self.assertEqual(told[-2:], [1, -2])

    def test_0_it_is_its_kinds_word(self):
        self.assertEqual(self.told(species(0, "lupus", 20, 0)), [0])

    def test_0_neither_the_group_nor_the_kind_need_have_a_name(self):
        self.assertEqual(self.told(species(1, "lupus", 20, 3)), [0])

    def test_1_another_one_is_its_kinds_word(self):
        self.assertEqual(self.told(species(0, "lupus", 20, 0), species(0, "niger", 21, 0)), [0, 1])
        self.assertEqual(self.told(species(0, "lupus", 21, 0), species(0, "niger", 20, 0)), [1, 0])

    def test_1_of_many(self):
        told = self.told(species(0, "aa", 9, 0), species(1, "bb", 8, 0), species(2, "cc", 7, 0), species(0, "dd", 9, 0))
        self.assertEqual(told, [1, 1, 0, 1])

    def test_2_a_homonym_from_birth_in_one_genus(self):
        self.assertEqual(self.told(species(0, "lupus", 20, 0), species(0, "lupus", 21, 1)), [0, 2])
        self.assertEqual(self.told(species(0, "lupus", 21, 0), species(0, "lupus", 20, 1)), [2, 0])

    def test_2_a_homonym_from_birth_in_two_genera_of_one_word(self):
        self.assertEqual(self.told(species(0, "lupus", 20, 0), species(2, "lupus", 21, 1)), [0, 2])
        self.assertEqual(self.told(species(0, "lupus", 21, 0), species(2, "lupus", 20, 1)), [2, 0])

    def test_2_what_is_ruled_of_those_genera_does_not_matter(self):
        for ruled in (1, 2):
            for number in (0, 2):
                told = self.told(species(0, "lupus", 20, 0), species(2, "lupus", 21, 3), rule(0, number, ruled))
                self.assertEqual(told, [0, 2])

    def test_no_homonym_from_birth_in_genera_of_different_words(self):
        self.assertEqual(self.told(species(0, "lupus", 20, 0), species(1, "lupus", 21, 3)), [0, 0])

    def test_no_homonym_from_birth_of_another_word(self):
        for word in ("lupusa", "lupu", "lupis"):
            self.assertEqual(self.told(species(0, "lupus", 20, 0), species(0, word, 21, 1)), [0, 0])

    def test_where_the_words_meet_does_not_matter(self):
        # "Ab" "cde" and "Abc" "de" have the same letters one behind the other.
        told = [genus("Ab"), genus("Abc"), species(0, "cde", 1, 0), species(1, "de", 1, 1),
                kind(0, 0), kind(1, 1), group(0, 0), group(1, 0)]
        self.assertEqual(ask_behind(told, status(0), status(1)), [[0], [0]])

    def test_2_wherever_the_other_one_is(self):
        for specimen in (0, 1, 2, 3, 4, 5):
            told = self.told(species(0, "lupus", 20, specimen), species(2, "lupus", 21, 0))
            self.assertEqual(told[1], 2)

    def test_2_of_three_only_the_first_is_good(self):
        told = self.told(species(0, "lupus", 22, 0), species(2, "lupus", 20, 1), species(0, "lupus", 21, 2))
        self.assertEqual(told, [2, 0, 2])

    def test_a_rejected_one_makes_no_homonym_from_birth(self):
        told = self.told(species(0, "lupus", 20, 0), species(2, "lupus", 21, 1), rule(1, 0, 1))
        self.assertEqual(told, [4, 0])

    def test_a_rejection_taken_back_makes_one_again(self):
        told = self.told(species(0, "lupus", 20, 0), species(2, "lupus", 21, 1), rule(1, 0, 1), rule(1, 0, 0))
        self.assertEqual(told, [0, 2])

    def test_a_conserved_one_makes_the_earlier_one_a_homonym_from_birth(self):
        told = self.told(species(0, "lupus", 20, 0), species(2, "lupus", 21, 1), rule(1, 1, 2))
        self.assertEqual(told, [2, 0])

    def test_a_conservation_taken_back_makes_none(self):
        for ruled, expected in ((0, [0, 2]), (1, [0, 4])):
            told = self.told(species(0, "lupus", 20, 0), species(2, "lupus", 21, 1), rule(1, 1, 2), rule(1, 1, ruled))
            self.assertEqual(told, expected)

    def test_3_a_homonym_in_its_group(self):
        self.assertEqual(self.told(species(0, "lupus", 20, 0), species(1, "lupus", 21, 1)), [0, 3])
        self.assertEqual(self.told(species(0, "lupus", 21, 0), species(1, "lupus", 20, 1)), [3, 0])

    def test_3_in_one_kind_too(self):
        self.assertEqual(self.told(species(0, "lupus", 20, 0), species(1, "lupus", 21, 0)), [0, 3])

    def test_3_the_other_one_need_not_be_its_kinds_word(self):
        told = self.told(species(0, "lupus", 20, 0), species(1, "lupus", 21, 1), species(0, "niger", 1, 0))
        self.assertEqual(told, [1, 3, 0])

    def test_3_of_three_only_the_first_is_none(self):
        more = [genus("Lynx"), species(0, "lupus", 22, 0), species(1, "lupus", 21, 1), species(3, "lupus", 20, 2)]
        self.assertEqual(self.told(*more), [3, 3, 0])

    def test_no_homonym_in_another_group(self):
        self.assertEqual(self.told(species(0, "lupus", 20, 3), species(1, "lupus", 21, 1)), [0, 0])

    def test_one_that_is_in_no_group_makes_no_homonym_in_a_group(self):
        for specimen in (4, 5):
            self.assertEqual(self.told(species(0, "lupus", 20, specimen), species(1, "lupus", 21, 1)), [5, 0])

    def test_two_that_are_in_no_group_are_in_no_group_together(self):
        self.assertEqual(self.told(species(0, "lupus", 20, 4), species(1, "lupus", 21, 5)), [5, 5])
        self.assertEqual(self.told(species(0, "lupus", 20, 4), species(1, "lupus", 21, 4)), [5, 5])
        self.assertEqual(self.told(species(0, "lupus", 20, 5), species(1, "lupus", 21, 5)), [5, 5])

    def test_a_rejected_one_makes_no_homonym_in_its_group(self):
        told = self.told(species(0, "lupus", 20, 0), species(1, "lupus", 21, 1), rule(1, 0, 1))
        self.assertEqual(told, [4, 0])

    def test_a_homonym_from_birth_makes_no_homonym_in_its_group(self):
        # Species 1 is a homonym from birth by species 0, which is in another group.
        told = self.told(species(0, "lupus", 19, 3), species(2, "lupus", 20, 0), species(1, "lupus", 21, 1))
        self.assertEqual(told, [0, 2, 0])

    def test_a_homonym_in_its_group_is_the_same_whichever_was_told_first(self):
        told = self.told(species(1, "lupus", 21, 1), species(2, "lupus", 20, 0), species(0, "lupus", 19, 3))
        self.assertEqual(told, [0, 2, 0])

    def test_a_conserved_one_makes_the_earlier_one_a_homonym_in_its_group(self):
        told = self.told(species(0, "lupus", 20, 0), species(1, "lupus", 21, 1), rule(1, 1, 2))
        self.assertEqual(told, [3, 0])

    def test_a_species_is_moved_to_another_kind(self):
        both = [species(0, "lupus", 20, 0), species(1, "lupus", 21, 1)]
        self.assertEqual(self.told(*both, kind(0, 13)), [0, 0])
        self.assertEqual(self.told(*both, kind(0, 12)), [0, 3])
        self.assertEqual(self.told(*both, kind(0, 14)), [5, 0])
        self.assertEqual(self.told(*both, kind(0, 256)), [5, 0])
        self.assertEqual(self.told(*both, kind(0, 256), kind(0, 10)), [0, 3])

    def test_a_kind_is_moved_to_another_group(self):
        both = [species(0, "lupus", 20, 0), species(1, "lupus", 21, 1)]
        self.assertEqual(self.told(*both, group(10, 4)), [0, 0])
        self.assertEqual(self.told(*both, group(10, 4), group(11, 4)), [0, 3])
        self.assertEqual(self.told(*both, group(10, 64)), [5, 0])
        self.assertEqual(self.told(*both, group(10, 64), group(11, 64)), [5, 5])
        self.assertEqual(self.told(*both, group(10, 64), group(10, 3)), [0, 3])

    def test_4_rejected(self):
        self.assertEqual(self.told(species(0, "lupus", 20, 0), rule(1, 0, 1)), [4])

    def test_5_in_no_kind(self):
        self.assertEqual(self.told(species(0, "lupus", 20, 5)), [5])

    def test_5_its_kind_is_in_no_group(self):
        self.assertEqual(self.told(species(0, "lupus", 20, 4)), [5])

    def test_4_is_answered_ahead_of_2(self):
        told = self.told(species(0, "lupus", 20, 0), species(0, "lupus", 21, 1), rule(1, 1, 1))
        self.assertEqual(told, [0, 4])

    def test_4_is_answered_ahead_of_5(self):
        for specimen in (4, 5):
            self.assertEqual(self.told(species(0, "lupus", 20, specimen), rule(1, 0, 1)), [4])

    def test_4_is_answered_ahead_of_3(self):
        told = self.told(species(0, "lupus", 20, 0), species(1, "lupus", 21, 1), rule(1, 1, 1))
        self.assertEqual(told, [0, 4])

    def test_4_is_answered_ahead_of_1(self):
        told = self.told(species(0, "lupus", 20, 0), species(0, "niger", 21, 0), rule(1, 1, 1))
        self.assertEqual(told, [0, 4])

    def test_2_is_answered_ahead_of_5(self):
        for specimen in (4, 5):
            told = self.told(species(0, "lupus", 20, 0), species(2, "lupus", 21, specimen))
            self.assertEqual(told, [0, 2])

    def test_2_is_answered_ahead_of_3(self):
        # Species 0 makes species 1 both: a homonym from birth, and one in group 3.
        self.assertEqual(self.told(species(0, "lupus", 20, 0), species(2, "lupus", 21, 1)), [0, 2])

    def test_2_is_answered_ahead_of_1(self):
        self.assertEqual(self.told(species(0, "lupus", 20, 0), species(2, "lupus", 21, 0)), [0, 2])

    def test_3_is_answered_ahead_of_1(self):
        told = self.told(species(0, "lupus", 20, 0), species(1, "lupus", 21, 1), species(1, "catus", 1, 1))
        self.assertEqual(told, [0, 3, 0])

    def test_a_conserved_species_may_have_any_other_status(self):
        more = [species(0, "lupus", 20, 0), species(2, "lupus", 21, 1), rule(1, 0, 2), rule(1, 1, 2)]
        self.assertEqual(self.told(*more), [0, 2])
        more = [species(0, "lupus", 20, 0), species(1, "lupus", 21, 1), rule(1, 0, 2), rule(1, 1, 2)]
        self.assertEqual(self.told(*more), [0, 3])
        more = [species(0, "lupus", 20, 0), species(0, "niger", 21, 0), rule(1, 0, 2), rule(1, 1, 2)]
        self.assertEqual(self.told(*more), [0, 1])
        self.assertEqual(self.told(species(0, "lupus", 20, 5), rule(1, 0, 2)), [5])

    def test_types_of_genera_do_not_matter(self):
        more = [species(0, "lupus", 20, 0), species(0, "niger", 21, 0), tie(0, 1), tie(2, 1)]
        self.assertEqual(self.told(*more), [0, 1])


if __name__ == "__main__":
    unittest.main()
