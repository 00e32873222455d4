"""Point 3: rule."""

import unittest

from namestands.book import Book
from tests.lines import TOP, ask, genus, letters, rule, species

TWO_GENERA_ONE_SPECIES = [genus("Canis"), genus("Felis"), species(0, "lupus")]


class RuleTest(unittest.TestCase):

    def after(self, *calls):
        return ask(*TWO_GENERA_ONE_SPECIES, *calls)[len(TWO_GENERA_ONE_SPECIES):]

    def book(self):
        book = Book()
        for word in ("Canis", "Felis"):
            book.add_genus(letters(word), 1)
        for word in ("lupus", "aureus"):
            book.add_species(0, letters(word), 1, 0)
        return book

    def rulings(self, book):
        return [name.ruling for name in book.genera + book.species]

    def test_all_rulings_of_both_ranks(self):
        calls = [rule(rank, 0, ruled) for rank in (0, 1) for ruled in (0, 1, 2)]
        self.assertEqual(self.after(*calls), [0] * 6)

    def test_rank_above_1(self):
        self.assertEqual(self.after(rule(1, 0, 0), rule(2, 0, 0), rule(TOP, 0, 0)), [0, -22, -22])

    def test_ruled_above_2(self):
        self.assertEqual(self.after(rule(0, 0, 2), rule(0, 0, 3), rule(1, 0, 3), rule(0, 0, TOP)), [0, -22, -22, -22])

    def test_no_such_name_of_that_rank(self):
        told = self.after(rule(0, 1, 1), rule(0, 2, 1), rule(0, TOP, 1), rule(1, 0, 1), rule(1, 1, 1), rule(1, TOP, 1))
        self.assertEqual(told, [0, -2, -2, 0, -2, -2])

    def test_wrong_rank_or_ruling_is_answered_ahead_of_no_such_name(self):
        told = self.after(rule(2, 9, 0), rule(0, 9, 3), rule(1, 9, 3), rule(2, 9, 3), rule(TOP, TOP, TOP))
        self.assertEqual(told, [-22] * 5)

    def test_at_first_nothing_is_ruled(self):
        self.assertEqual(self.rulings(self.book()), [0, 0, 0, 0])

    def test_it_is_ruled_of_that_name_alone(self):
        for rank, number, place in ((0, 0, 0), (0, 1, 1), (1, 0, 2), (1, 1, 3)):
            for ruled in (1, 2):
                book = self.book()
                self.assertEqual(book.rule_name(rank, number, ruled), 0)
                expected = [0, 0, 0, 0]
                expected[place] = ruled
                self.assertEqual(self.rulings(book), expected)

    def test_the_last_ruling_alone_holds(self):
        for rank in (0, 1):
            for former in (0, 1, 2):
                for latter in (0, 1, 2):
                    book = self.book()
                    book.rule_name(rank, 1, former)
                    book.rule_name(rank, 1, latter)
                    self.assertEqual(self.rulings(book)[rank * 2 + 1], latter)

    def test_what_is_refused_rules_nothing(self):
        book = self.book()
        book.rule_name(0, 0, 1)
        book.rule_name(1, 0, 2)
        told = [book.rule_name(2, 0, 0), book.rule_name(0, 0, 3), book.rule_name(1, 0, 3), book.rule_name(0, 2, 0)]
        self.assertEqual(told, [-22, -22, -22, -2])
        self.assertEqual(self.rulings(book), [1, 0, 2, 0])


if __name__ == "__main__":
    unittest.main()
