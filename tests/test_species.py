"""Point 2: species."""

import unittest

from namestands.book import Book
from tests.lines import TOP, ask, genus, letters, many_species, rule, species

LAST_DAY = 1048576


class SpeciesTest(unittest.TestCase):

    def refused(self, word, day=1, specimen=0):
        told = ask(genus("Canis"), species(0, word, day, specimen), species(0, "lupus"))
        self.assertEqual(told, [0, -22, 0], (word, day, specimen))

    def taken(self, word, day=1, specimen=0):
        told = ask(genus("Canis"), species(0, word, day, specimen), species(0, "lupus"))
        self.assertEqual(told, [0, 0, 1], (word, day, specimen))

    def test_numbers_go_up_from_0_in_all_genera_together(self):
        told = ask(genus("Canis"), genus("Felis"), species(0, "lupus", 8), species(1, "catus", 2),
                   species(0, "aureus", 5))
        self.assertEqual(told, [0, 1, 0, 1, 2])

    def test_one_word_and_one_type_may_be_told_twice(self):
        told = ask(genus("Canis"), species(0, "lupus", 1, 5), species(0, "lupus", 1, 5))
        self.assertEqual(told, [0, 0, 1])

    def test_length_of_the_word(self):
        self.refused("")
        self.refused("a")
        self.taken("aa")
        self.taken("b" * 23)
        self.taken("b" * 24)
        self.refused("b" * 25)
        self.refused("b" * 20000)

    def test_all_letters_are_small(self):
        for letter in range(256):
            with self.subTest(letter=letter):
                check = self.taken if 97 <= letter <= 122 else self.refused
                check([letter, 97])
                check([97, letter])
                check([97, letter, 98])
                check([98] * 23 + [letter])

    def test_words_of_wrong_case(self):
        for word in ("Lupus", "LUPUS", "lupuS", "luPus"):
            self.refused(word)

    def test_signs_that_are_no_letters_of_english(self):
        for word in ("lup us", "lupus ", " lupus", "lup-us", "1upus", "l\xfcpus", "lupus\x00"):
            self.refused(word)

    def test_day(self):
        self.taken("catus", 0)
        self.taken("catus", LAST_DAY - 1)
        self.taken("catus", LAST_DAY)
        self.refused("catus", LAST_DAY + 1)
        self.refused("catus", TOP)

    def test_type(self):
        self.taken("catus", 1, 0)
        self.taken("catus", 1, 1022)
        self.taken("catus", 1, 1023)
        self.refused("catus", 1, 1024)
        self.refused("catus", 1, TOP)

    def test_day_and_type_are_not_mistaken_for_one_another(self):
        self.taken("catus", LAST_DAY, 1023)
        self.refused("catus", 1023, LAST_DAY)

    def test_genus_must_be_there(self):
        told = ask(genus("Canis"), genus("Felis"), species(1, "lupus"), species(2, "lupus"), species(TOP, "lupus"),
                   species(0, "lupus"))
        self.assertEqual(told, [0, 1, 0, -2, -2, 1])

    def test_wrong_word_day_or_type_is_answered_ahead_of_no_such_genus(self):
        told = ask(species(0, "Lupus"), species(0, "lupus", LAST_DAY + 1), species(0, "lupus", 1, 1024),
                   species(0, ""), species(0, "lupus"))
        self.assertEqual(told, [-22, -22, -22, -22, -2])

    def test_there_are_1024_at_most(self):
        told = ask(genus("Canis"), *many_species(1024), species(0, "lupus"), species(0, "lupus"))
        self.assertEqual(told, [0] + list(range(1024)) + [-28, -28])

    def test_when_there_are_1024_the_other_refusals_come_first(self):
        told = ask(genus("Canis"), *many_species(1024), species(0, "Lupus"), species(0, "lupus", LAST_DAY + 1),
                   species(0, "lupus", 1, 1024), species(1, "lupus"), species(1, "l"), species(0, "lupus"))
        self.assertEqual(told[1025:], [-22, -22, -22, -2, -22, -28])

    def test_the_1024th_is_there_and_the_next_is_not(self):
        told = ask(genus("Canis"), *many_species(1024), species(0, "lupus"), rule(1, 1023, 0), rule(1, 1024, 0))
        self.assertEqual(told[1024:], [1023, -28, 0, -2])

    def test_refused_ones_do_not_count_towards_1024(self):
        told = ask(genus("Canis"), *[species(1, "lupus")] * 300, *[species(0, "x")] * 300, *many_species(1024))
        self.assertEqual(told[601:], list(range(1024)))

    def test_each_number_is_kept_where_it_belongs(self):
        book = Book()
        book.add_genus(letters("Canis"), 30)
        book.add_genus(letters("Felis"), 40)
        book.add_species(1, letters("catus"), 50, 60)
        kept = book.species[0]
        self.assertEqual((kept.genus, kept.word, kept.day, kept.specimen), (1, letters("catus"), 50, 60))
        self.assertEqual((book.genera[1].word, book.genera[1].day), (letters("Felis"), 40))


if __name__ == "__main__":
    unittest.main()
