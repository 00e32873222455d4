"""What answers below 0 changes nothing, and begin changes all, as the answers show."""

import unittest

from tests.lines import (
    TOP, ask_whole, genus, genus_of, group, kind, many_genera, name, names, rule, species, status, tie, whole_name)

DAY_TOO_LATE = 1048577
TOLD = [
    genus("Canis", 10), genus("Vulpes", 20), genus("Canis", 30),
    species(0, "lupus", 30, 5), species(0, "niger", 40, 5), species(1, "lupus", 50, 6), species(2, "lupus", 60, 7),
    species(1, "corsac", 70, 1023),
    tie(0, 0), tie(1, 4), rule(1, 1, 1), rule(0, 1, 2),
    kind(5, 7), kind(6, 7), kind(7, 8), kind(1023, 255), group(7, 3), group(8, 3), group(255, 63),
]
# Each of these is refused behind TOLD; many would change an answer, were they not.
REFUSED = [
    (genus("canis", 1), -22), (genus("Canis", DAY_TOO_LATE), -22), (genus("A", 1), -22),
    (species(0, "Ater", 1, 5), -22), (species(0, "ater", DAY_TOO_LATE, 5), -22), (species(0, "ater", 1, 1024), -22),
    (species(3, "ater", 1, 5), -2), (species(TOP, "ater", 1, 5), -2),
    (tie(3, 0), -2), (tie(2, 5), -2), (tie(0, 1), -17), (tie(2, 2), -1), (tie(2, 4), -1),
    (rule(2, 0, 1), -22), (rule(0, 0, 3), -22), (rule(1, 0, 3), -22), (rule(0, 3, 1), -2), (rule(1, 5, 1), -2),
    (kind(1024, 7), -22), (kind(5, 257), -22), (kind(1023, TOP), -22),
    (group(256, 3), -22), (group(7, 65), -22), (group(255, TOP), -22),
    (genus_of(64), -22), (name(256), -22), (status(5), -2), (names(256, 0), -22),
]


def everything(kinds=range(256), how_many_species=5):
    """Questions of all groups, these kinds and these species."""
    asked = [genus_of(number) for number in range(64)]
    for of_kind in kinds:
        asked += [name(of_kind)] + [names(of_kind, k) for k in range(how_many_species + 1)]
    return asked + [status(number) for number in range(how_many_species)]


ALL = everything((0, 6, 7, 8, 9, 254, 255))


class RefusedTest(unittest.TestCase):

    def test_what_is_asked_has_something_to_show(self):
        told = ask_whole(*TOLD, name(7), name(255), name(8), genus_of(3), genus_of(63))[len(TOLD):]
        self.assertEqual(told, [whole_name(0, 0, "Canis", "lupus"), whole_name(1, 4, "Vulpes", "corsac"), [0],
                                [1, 0], [1, 1]])
        statuses = ask_whole(*TOLD, *[status(number) for number in range(5)])[len(TOLD):]
        self.assertEqual(statuses, [[0], [4], [3], [2], [0]])

    def test_each_refusal_alone(self):
        before = ask_whole(*TOLD, *ALL)[len(TOLD):]
        for call, number in REFUSED:
            with self.subTest(call=call):
                told = ask_whole(*TOLD, call, *ALL)[len(TOLD):]
                self.assertEqual(told[0], [number])
                self.assertEqual(told[1:], before)

    def test_all_refusals_together(self):
        before = ask_whole(*TOLD, *ALL)[len(TOLD):]
        told = ask_whole(*TOLD, *[call for call, number in REFUSED], *ALL)[len(TOLD):]
        self.assertEqual(told[:len(REFUSED)], [[number] for call, number in REFUSED])
        self.assertEqual(told[len(REFUSED):], before)

    def test_a_genus_too_many_is_of_no_word_to_others(self):
        # The 257th would be an earlier Canis.
        told = [genus("Canis", 10), species(0, "lupus", 1, 5), tie(0, 0), kind(5, 7), group(7, 3), *many_genera(255)]
        parts = ask_whole(*told, genus("Canis", 9), genus_of(3), status(0))[len(told):]
        self.assertEqual(parts, [[-28], [1, 0], [0]])

    def test_a_species_too_many_is_in_no_kind(self):
        told = [genus("Canis", 10), kind(5, 7), group(7, 3)] + [species(0, "lupus", 10, 5)] * 1024
        parts = ask_whole(*told, species(0, "ater", 9, 5), names(7, 0), names(7, 1024), status(1024))[len(told):]
        self.assertEqual(parts, [[-28], [1, 0, 0], [0], [-2]])


class BeginAgainTest(unittest.TestCase):

    def test_no_names_and_none_belongs_anywhere(self):
        asked = everything(how_many_species=1)[:-1]
        told = ask_whole(*TOLD, [0], *asked, status(0), status(4))[len(TOLD):]
        self.assertEqual(told, [[0]] * (1 + len(asked)) + [[-2], [-2]])

    def test_specimens_are_in_no_kind(self):
        told = ask_whole(*TOLD, [0], genus("Canis"), species(0, "lupus", 1, 5), tie(0, 0), group(7, 3),
                         status(0), names(7, 0), genus_of(3))
        self.assertEqual(told[-3:], [[5], [0], [0]])

    def test_kinds_are_in_no_group(self):
        told = ask_whole(*TOLD, [0], genus("Canis"), species(0, "lupus", 1, 5), tie(0, 0), kind(5, 7),
                         status(0), names(7, 0), genus_of(3))
        self.assertEqual(told[-3:], [[5], [1, 0, 5], [0]])

    def test_nothing_is_ruled(self):
        told = [genus("Canis", 1), species(0, "lupus", 1, 5), tie(0, 0), kind(5, 7), group(7, 3)]
        parts = ask_whole(*told, rule(0, 0, 1), rule(1, 0, 1), name(7), [0], *told, name(7), status(0))
        self.assertEqual(parts[7], [0])
        self.assertEqual(parts[-2:], [whole_name(0, 0, "Canis", "lupus"), [0]])

    def test_former_names_make_no_homonyms(self):
        told = ask_whole(*TOLD, [0], genus("Canis", 99), species(0, "lupus", 99, 5), tie(0, 0), kind(5, 7),
                         group(7, 3), name(7), names(7, 0), names(7, 1))
        self.assertEqual(told[-3:], [whole_name(0, 0, "Canis", "lupus"), [1, 0, 0], [0]])

    def test_the_same_calls_are_answered_the_same_way_behind_a_second_begin(self):
        once = ask_whole(*TOLD, *ALL)
        self.assertEqual(ask_whole(*TOLD, *ALL, [0], *TOLD, *ALL), once + [[0]] + once)


if __name__ == "__main__":
    unittest.main()
