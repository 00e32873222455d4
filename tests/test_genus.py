"""Point 2: genus."""

import unittest

from tests.lines import TOP, ask, genus, many_genera, species

LAST_DAY = 1048576


class GenusTest(unittest.TestCase):

    def refused(self, word, day=1):
        # What follows shows that nothing was added.
        self.assertEqual(ask(genus(word, day), genus("Canis")), [-22, 0], (word, day))

    def taken(self, word, day=1):
        self.assertEqual(ask(genus(word, day), genus("Canis")), [0, 1], (word, day))

    def test_numbers_go_up_from_0_as_genera_are_told(self):
        self.assertEqual(ask(genus("Canis", 9), genus("Felis", 3), genus("Vulpes", 5)), [0, 1, 2])

    def test_one_word_may_be_told_twice(self):
        self.assertEqual(ask(genus("Canis", 4), genus("Canis", 4)), [0, 1])

    def test_species_do_not_count_among_genera(self):
        self.assertEqual(ask(genus("Canis"), species(0, "lupus"), genus("Felis")), [0, 0, 1])

    def test_length_of_the_word(self):
        self.refused("")
        self.refused("A")
        self.taken("Aa")
        self.taken("A" + "b" * 22)
        self.taken("A" + "b" * 23)
        self.refused("A" + "b" * 24)
        self.refused("A" + "b" * 20000)

    def test_first_letter_is_great(self):
        for first in range(256):
            with self.subTest(first=first):
                check = self.taken if 65 <= first <= 90 else self.refused
                check([first, 97])

    def test_other_letters_are_small(self):
        for other in range(256):
            with self.subTest(other=other):
                check = self.taken if 97 <= other <= 122 else self.refused
                check([65, other])
                check([65, other, 98])
                check([65] + [98] * 22 + [other])

    def test_words_of_wrong_case(self):
        for word in ("canis", "CANIS", "cANIS", "CaniS", "CaNis"):
            self.refused(word)

    def test_signs_that_are_no_letters_of_english(self):
        for word in ("Can is", "Canis ", " Canis", "Can-is", "Can1s", "Can\xefs", "\xc4pis", "Canis\x00"):
            self.refused(word)

    def test_day(self):
        self.taken("Felis", 0)
        self.taken("Felis", LAST_DAY - 1)
        self.taken("Felis", LAST_DAY)
        self.refused("Felis", LAST_DAY + 1)
        self.refused("Felis", TOP)

    def test_wrong_word_and_wrong_day(self):
        self.refused("felis", LAST_DAY + 1)

    def test_there_are_256_at_most(self):
        told = ask(*many_genera(256), genus("Canis"), genus("Felis"))
        self.assertEqual(told, list(range(256)) + [-28, -28])

    def test_a_wrong_word_or_day_is_answered_ahead_of_too_many(self):
        told = ask(*many_genera(256), genus("canis"), genus("Canis", LAST_DAY + 1), genus(""), genus("Canis"))
        self.assertEqual(told[256:], [-22, -22, -22, -28])

    def test_refused_ones_do_not_count_towards_256(self):
        calls = []
        for call in many_genera(256):
            calls += [genus("x"), call]
        self.assertEqual(ask(*calls)[1::2], list(range(256)))

    def test_the_256th_is_there_and_the_next_is_not(self):
        told = ask(*many_genera(256), genus("Canis"), species(255, "lupus"), species(256, "lupus"))
        self.assertEqual(told[255:], [255, -28, 0, -2])


if __name__ == "__main__":
    unittest.main()
