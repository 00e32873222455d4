"""Point 7: names."""

import unittest

from tests.lines import (
    TOP, ask, ask_behind, ask_whole, genus, group, kind, many_species, members, names, rule, species, tie)

# In kind 7 of group 3 one species of each status that can be there, told neither in the order of their days nor
# of their statuses; species 5 is in kind 8 of the same group, 6 in no kind.
MANY = [
    genus("Canis", 10), genus("Vulpes", 10),
    species(0, "ater", 60, 1), species(0, "lupus", 40, 2), species(0, "niger", 50, 3), species(1, "aureus", 30, 4),
    species(0, "ater", 20, 5), species(0, "aureus", 20, 6), species(0, "nix", 10, 7),
    rule(1, 2, 1),
    kind(1, 7), kind(2, 7), kind(3, 7), kind(4, 7), kind(5, 7), kind(6, 8), group(7, 3), group(8, 3),
]


class NamesTest(unittest.TestCase):

    def test_kind(self):
        told = ask(*[names(of_kind, 0) for of_kind in (0, 254, 255, 256, 257, TOP)])
        self.assertEqual(told, [0, 0, 0, -22, -22, -22])

    def test_a_wrong_kind_is_answered_whatever_k_is(self):
        self.assertEqual(ask(names(256, TOP), names(TOP, TOP), names(255, TOP)), [-22, -22, 0])

    def test_all_species_in_the_kind_with_their_statuses(self):
        self.assertEqual(members(MANY, 7), [(4, 0), (3, 3), (1, 1), (2, 4), (0, 2)])
        self.assertEqual(members(MANY, 8), [(5, 0)])

    def test_an_empty_kind(self):
        self.assertEqual(members(MANY, 9), [])
        self.assertEqual(members(MANY, 0), [])
        self.assertEqual(members(MANY, 255), [])

    def test_k_behind_the_last_one(self):
        told = ask_behind(MANY, names(7, 4), names(7, 5), names(7, 6), names(7, 1023), names(7, 1024), names(7, TOP))
        self.assertEqual(told, [[1, 0, 2]] + [[0]] * 5)

    def test_k_from_0_in_an_empty_kind(self):
        self.assertEqual(ask(names(7, 0), names(7, 1), names(7, TOP)), [0, 0, 0])

    def test_a_kind_in_no_group_has_its_species_too(self):
        told = MANY + [group(7, 64)]
        self.assertEqual(members(told, 7), [(4, 5), (3, 5), (1, 5), (2, 4), (0, 2)])

    def test_a_conserved_one_comes_first(self):
        told = MANY + [rule(1, 1, 2)]
        self.assertEqual(members(told, 7), [(1, 0), (4, 1), (3, 3), (2, 4), (0, 2)])

    def test_a_conserved_one_comes_first_though_it_is_not_the_word(self):
        # Both are conserved, so of the two aureus the one of kind 8 still has priority.
        told = MANY + [rule(1, 3, 2), rule(1, 5, 2)]
        self.assertEqual(members(told, 7), [(3, 3), (4, 0), (1, 1), (2, 4), (0, 2)])

    def test_a_rejected_one_stands_where_its_day_puts_it(self):
        told = MANY + [rule(1, 4, 1)]
        self.assertEqual(members(told, 7), [(4, 4), (3, 3), (1, 0), (2, 4), (0, 1)])

    def test_a_ruling_taken_back(self):
        told = MANY + [rule(1, 1, 2), rule(1, 1, 0), rule(1, 2, 0)]
        self.assertEqual(members(told, 7), [(4, 0), (3, 3), (1, 1), (2, 1), (0, 2)])

    def test_of_one_day_the_lesser_number_comes_first(self):
        told = [genus("Canis")] + [species(0, word, 9, 1) for word in ("dd", "cc", "bb", "aa")]
        told += [kind(1, 7), group(7, 3)]
        self.assertEqual(members(told, 7), [(0, 0), (1, 1), (2, 1), (3, 1)])

    def test_the_order_is_that_of_days_not_of_telling(self):
        told = [genus("Canis")] + [species(0, word, 9 - k, 1) for k, word in enumerate(("dd", "cc", "bb", "aa"))]
        told += [kind(1, 7), group(7, 3)]
        self.assertEqual(members(told, 7), [(3, 0), (2, 1), (1, 1), (0, 1)])

    def test_a_specimen_is_moved(self):
        told = MANY + [kind(5, 8)]
        self.assertEqual(members(told, 7), [(3, 3), (1, 0), (2, 4), (0, 2)])
        self.assertEqual(members(told, 8), [(4, 0), (5, 1)])

    def test_a_specimen_is_in_no_kind(self):
        told = MANY + [kind(5, 256)]
        self.assertEqual(members(told, 7), [(3, 3), (1, 0), (2, 4), (0, 2)])
        self.assertEqual(ask_behind(told, [9, 4]), [[5]])

    def test_a_kind_is_moved_to_another_group(self):
        told = MANY + [group(8, 4)]
        self.assertEqual(members(told, 7), [(4, 0), (3, 1), (1, 1), (2, 4), (0, 2)])
        self.assertEqual(members(told, 8), [(5, 0)])

    def test_two_species_of_one_specimen_go_together(self):
        told = [genus("Canis"), species(0, "aa", 1, 9), species(0, "bb", 1, 9), kind(9, 255), group(255, 63)]
        self.assertEqual(members(told, 255), [(0, 0), (1, 1)])
        self.assertEqual(members(told + [kind(9, 0)], 255), [])
        self.assertEqual(members(told + [kind(9, 0)], 0), [(0, 5), (1, 5)])

    def test_a_name_is_not_needed(self):
        # No genus has a type, so no kind has a name.
        self.assertEqual(ask_behind(MANY, [8, 7], names(7, 0)), [[0], [1, 4, 0]])
        self.assertEqual(members(MANY + [tie(0, 0)], 7), members(MANY, 7))

    def test_1024_in_one_kind(self):
        told = [genus("Canis"), *many_species(1024), kind(0, 7), group(7, 3)]
        parts = ask_whole(*told, names(7, 0), names(7, 1), names(7, 1023), names(7, 1024))
        self.assertEqual(parts[-4:], [[1, 0, 0], [1, 1, 1], [1, 1023, 1], [0]])


if __name__ == "__main__":
    unittest.main()
