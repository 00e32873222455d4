"""Point 4: group."""

import unittest

from tests.lines import TOP, ask, ask_behind, genus, genus_of, group, kind, name, species, status, tie, whole_name

# Canis lupus, specimen 5, which is in kind 7; of the kind's group nothing is told yet.
LUPUS = [genus("Canis", 10), species(0, "lupus", 20, 5), tie(0, 0), kind(5, 7)]
LUPUS_NAME = whole_name(0, 0, "Canis", "lupus")


class GroupTest(unittest.TestCase):

    def test_kind(self):
        told = ask(group(0, 0), group(254, 0), group(255, 0), group(256, 0), group(257, 0), group(TOP, 0))
        self.assertEqual(told, [0, 0, 0, -22, -22, -22])

    def test_group(self):
        told = ask(group(0, 62), group(0, 63), group(0, 64), group(0, 65), group(0, TOP))
        self.assertEqual(told, [0, 0, 0, -22, -22])

    def test_both_wrong(self):
        self.assertEqual(ask(group(256, 65), group(TOP, TOP)), [-22, -22])

    def test_the_two_are_not_mistaken_for_one_another(self):
        self.assertEqual(ask(group(255, 64), group(64, 255)), [0, -22])

    def test_no_kind_is_no_kind_of_a_group_though_specimens_may_be_told_to_be_in_it(self):
        told = [genus("Canis"), species(0, "lupus", 1, 5), tie(0, 0), kind(5, 256)]
        self.assertEqual(ask(*told, group(256, 3), genus_of(3), status(0))[4:], [-22, 0, 5])

    def test_neither_names_nor_specimens_are_needed(self):
        self.assertEqual(ask(group(9, 64), group(9, 1), group(9, 1), group(9, 2), group(9, 64)), [0] * 5)

    def test_at_first_a_kind_is_in_no_group(self):
        self.assertEqual(ask_behind(LUPUS, status(0), name(7)), [[5], [0]])
        groups = ask_behind(LUPUS, *[genus_of(number) for number in range(64)])
        self.assertEqual(groups, [[0]] * 64)

    def test_the_kind_is_in_that_group(self):
        for in_group in (0, 1, 62, 63):
            told = LUPUS + [group(7, in_group)]
            self.assertEqual(ask_behind(told, genus_of(in_group), name(7), status(0)), [[1, 0], LUPUS_NAME, [0]])

    def test_it_is_in_no_other_group(self):
        groups = ask_behind(LUPUS + [group(7, 3)], *[genus_of(number) for number in range(64)])
        self.assertEqual(groups, [[0]] * 3 + [[1, 0]] + [[0]] * 60)

    def test_that_kind_alone_is_in_that_group(self):
        for other in (0, 6, 8, 255):
            self.assertEqual(ask_behind(LUPUS + [group(other, 3)], genus_of(3), name(7), status(0)), [[0], [0], [5]])

    def test_first_and_last_kind(self):
        for of_kind in (0, 255):
            told = LUPUS + [kind(5, of_kind), group(of_kind, 63)]
            self.assertEqual(ask_behind(told, name(of_kind), genus_of(63), status(0)), [LUPUS_NAME, [1, 0], [0]])

    def test_a_kind_is_in_the_group_told_last(self):
        told = LUPUS + [group(7, 3), group(7, 4)]
        self.assertEqual(ask_behind(told, genus_of(3), genus_of(4), name(7)), [[0], [1, 0], LUPUS_NAME])

    def test_with_64_a_kind_is_in_no_group_any_more(self):
        told = LUPUS + [group(7, 3), group(7, 64)]
        self.assertEqual(ask_behind(told, genus_of(3), name(7), status(0)), [[0], [0], [5]])

    def test_a_kind_may_come_back(self):
        told = LUPUS + [group(7, 3), group(7, 64), group(7, 3)]
        self.assertEqual(ask_behind(told, genus_of(3), name(7), status(0)), [[1, 0], LUPUS_NAME, [0]])

    def test_the_group_may_be_told_ahead_of_all_names(self):
        told = [group(7, 3)] + LUPUS
        self.assertEqual(ask_behind(told, genus_of(3), name(7), status(0)), [[1, 0], LUPUS_NAME, [0]])

    def test_what_is_refused_moves_no_kind(self):
        calls = [*LUPUS, group(7, 3), group(7, 65), group(7, TOP), group(256, 64), group(263, 64)]
        self.assertEqual(ask(*calls, status(0))[4:], [0, -22, -22, -22, -22, 0])


if __name__ == "__main__":
    unittest.main()
