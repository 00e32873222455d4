"""Point 3: type, by which a genus gets the species that is its type."""

import unittest

from namestands.book import Book
from tests.lines import TOP, ask, genus, letters, rule, species, tie

CANIS_AND_FELIS = [genus("Canis"), genus("Felis"), species(0, "lupus"), species(1, "catus")]


class TieTest(unittest.TestCase):

    def after(self, *calls):
        return ask(*CANIS_AND_FELIS, *calls)[len(CANIS_AND_FELIS):]

    def test_a_species_of_the_genus_becomes_its_type(self):
        self.assertEqual(self.after(tie(0, 0), tie(1, 1)), [0, 0])

    def test_no_such_genus(self):
        self.assertEqual(self.after(tie(2, 0), tie(TOP, 0)), [-2, -2])

    def test_no_such_species(self):
        self.assertEqual(self.after(tie(0, 2), tie(0, TOP)), [-2, -2])

    def test_neither_genus_nor_species(self):
        self.assertEqual(self.after(tie(2, 2), tie(TOP, TOP)), [-2, -2])

    def test_the_genus_has_a_type(self):
        told = self.after(species(0, "aureus"), tie(0, 0), tie(0, 0), tie(0, 2))
        self.assertEqual(told, [2, 0, -17, -17])

    def test_the_species_is_of_a_genus_of_another_word(self):
        self.assertEqual(self.after(tie(0, 1), tie(1, 0)), [-1, -1])

    def test_another_genus_of_the_same_word_will_do(self):
        told = self.after(genus("Canis", 9), tie(2, 0), species(2, "aureus"), tie(0, 2))
        self.assertEqual(told, [2, 0, 2, 0])

    def test_one_species_may_be_the_type_of_two_genera(self):
        told = self.after(genus("Canis", 9), tie(0, 0), tie(2, 0))
        self.assertEqual(told, [2, 0, 0])

    def test_words_that_are_alike_in_part_are_other_words(self):
        told = self.after(genus("Canisa"), genus("Cani"), genus("Canit"), tie(2, 0), tie(3, 0), tie(4, 0))
        self.assertEqual(told[3:], [-1, -1, -1])

    def test_no_such_name_is_answered_ahead_of_a_type_that_is_there(self):
        self.assertEqual(self.after(tie(0, 0), tie(0, 2), tie(0, TOP)), [0, -2, -2])

    def test_a_type_that_is_there_is_answered_ahead_of_another_word(self):
        self.assertEqual(self.after(tie(0, 0), tie(0, 1)), [0, -17])

    def test_what_is_refused_gives_no_type(self):
        self.assertEqual(self.after(tie(0, 1), tie(0, 2), tie(2, 0), tie(0, 0)), [-1, -2, -2, 0])

    def test_rulings_do_not_matter(self):
        for ruled in (0, 1, 2):
            self.assertEqual(self.after(rule(0, 0, ruled), rule(1, 0, ruled), tie(0, 0), tie(0, 0)), [0, 0, 0, -17])

    def test_the_type_that_was_told_is_kept_when_another_is_refused(self):
        book = Book()
        book.add_genus(letters("Canis"), 1)
        book.add_species(0, letters("lupus"), 1, 0)
        book.add_species(0, letters("aureus"), 1, 0)
        self.assertIsNone(book.genera[0].anchor)
        self.assertEqual([book.tie_genus(0, 1), book.tie_genus(0, 0)], [0, -17])
        self.assertEqual(book.genera[0].anchor, 1)

    def test_species_0_is_a_type_like_any_other(self):
        book = Book()
        book.add_genus(letters("Canis"), 1)
        book.add_species(0, letters("lupus"), 1, 0)
        self.assertEqual([book.tie_genus(0, 0), book.tie_genus(0, 0)], [0, -17])
        self.assertEqual(book.genera[0].anchor, 0)


if __name__ == "__main__":
    unittest.main()
