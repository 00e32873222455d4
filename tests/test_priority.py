"""Which of two genera, and of two species, has priority."""

import unittest

from tests.lines import ask_behind, genus, genus_of, group, kind, members, rule, species, status, tie

LAST_DAY = 1048576

# (day and ruling of the one, day and ruling of the other, which has priority); the one has the lesser number.
PAIRS = (
    # Nothing is ruled: the earlier day, of one day the lesser number.
    ((1, 0), (2, 0), 0),
    ((2, 0), (1, 0), 1),
    ((5, 0), (5, 0), 0),
    ((0, 0), (0, 0), 0),
    ((LAST_DAY, 0), (0, 0), 1),
    ((LAST_DAY, 0), (LAST_DAY - 1, 0), 1),
    ((LAST_DAY, 0), (LAST_DAY, 0), 0),
    ((9, 0), (10, 0), 0),
    ((10, 0), (9, 0), 1),
    # One is conserved: that one, whatever the days.
    ((1, 0), (2, 2), 1),
    ((2, 2), (1, 0), 0),
    ((0, 0), (LAST_DAY, 2), 1),
    ((LAST_DAY, 2), (0, 0), 0),
    ((5, 0), (5, 2), 1),
    ((5, 2), (5, 0), 0),
    ((1, 2), (2, 0), 0),
    ((2, 0), (1, 2), 1),
    # Both are conserved: the earlier day, of one day the lesser number.
    ((1, 2), (2, 2), 0),
    ((2, 2), (1, 2), 1),
    ((5, 2), (5, 2), 0),
    ((LAST_DAY, 2), (0, 2), 1),
)


class PriorityTest(unittest.TestCase):

    def test_of_two_genera_in_one_group(self):
        for (day, ruled), (other_day, other_ruled), first in PAIRS:
            told = [genus("Canis", day), genus("Vulpes", other_day), species(0, "aa", 1, 0), species(1, "bb", 1, 0),
                    tie(0, 0), tie(1, 1), kind(0, 7), group(7, 3), rule(0, 0, ruled), rule(0, 1, other_ruled)]
            with self.subTest(one=(day, ruled), other=(other_day, other_ruled)):
                self.assertEqual(ask_behind(told, genus_of(3)), [[1, first]])

    def test_of_two_genera_of_one_word(self):
        for (day, ruled), (other_day, other_ruled), first in PAIRS:
            told = [genus("Canis", day), genus("Canis", other_day), species(0, "aa", 1, 0), species(1, "bb", 1, 1),
                    tie(0, 0), tie(1, 1), kind(0, 7), kind(1, 8), group(7, 3), group(8, 4),
                    rule(0, 0, ruled), rule(0, 1, other_ruled)]
            expected = [[1, 0], [0]] if first == 0 else [[0], [1, 1]]
            with self.subTest(one=(day, ruled), other=(other_day, other_ruled)):
                self.assertEqual(ask_behind(told, genus_of(3), genus_of(4)), expected)

    def two_species(self, genera, words, kinds, pair):
        (day, ruled), (other_day, other_ruled), first = pair
        return [genus("Canis", 1), genus("Vulpes", 1),
                species(genera[0], words[0], day, 0), species(genera[1], words[1], other_day, 1),
                kind(0, kinds[0]), kind(1, kinds[1]), group(7, 3), group(8, 3),
                rule(1, 0, ruled), rule(1, 1, other_ruled)]

    def check_statuses(self, genera, words, kinds, behind):
        for pair in PAIRS:
            told = self.two_species(genera, words, kinds, pair)
            expected = [[behind], [behind]]
            expected[pair[2]] = [0]
            with self.subTest(pair=pair):
                self.assertEqual(ask_behind(told, status(0), status(1)), expected)

    def test_of_two_species_in_one_kind(self):
        self.check_statuses((0, 0), ("aa", "bb"), (7, 7), 1)

    def test_of_two_species_of_one_word_and_genus(self):
        self.check_statuses((0, 0), ("aa", "aa"), (7, 8), 2)

    def test_of_two_species_of_one_word_in_one_group(self):
        self.check_statuses((0, 1), ("aa", "aa"), (7, 8), 3)
        self.check_statuses((1, 0), ("aa", "aa"), (8, 7), 3)

    def test_in_the_order_of_names(self):
        for pair in PAIRS:
            told = self.two_species((0, 0), ("aa", "bb"), (7, 7), pair)
            order = [(0, 0), (1, 1)] if pair[2] == 0 else [(1, 0), (0, 1)]
            with self.subTest(pair=pair):
                self.assertEqual(members(told, 7), order)

    def test_a_rejected_one_has_its_place_by_its_day_in_names(self):
        for ruled in (0, 1):
            told = [genus("Canis", 1), species(0, "aa", 3, 0), species(0, "bb", 2, 0), species(0, "cc", 1, 0),
                    kind(0, 7), group(7, 3), rule(1, 1, ruled)]
            self.assertEqual([number for number, found in members(told, 7)], [2, 1, 0])

    def test_days_of_genera_do_not_matter_among_species(self):
        told = [genus("Canis", 9), genus("Vulpes", 1), species(0, "aa", 3, 0), species(1, "bb", 4, 0),
                kind(0, 7), group(7, 3), rule(0, 1, 2)]
        self.assertEqual(members(told, 7), [(0, 0), (1, 1)])

    def test_days_of_types_do_not_matter_among_genera(self):
        told = [genus("Canis", 1), genus("Vulpes", 2), species(0, "aa", 9, 0), species(1, "bb", 3, 0),
                tie(0, 0), tie(1, 1), kind(0, 7), group(7, 3), rule(1, 1, 2)]
        self.assertEqual(ask_behind(told, genus_of(3)), [[1, 0]])


if __name__ == "__main__":
    unittest.main()
