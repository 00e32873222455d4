"""Point 4: kind."""

import unittest

from namestands.book import Book
from tests.lines import TOP, ask, kind


class KindTest(unittest.TestCase):

    def test_specimen(self):
        told = ask(kind(0, 0), kind(1022, 0), kind(1023, 0), kind(1024, 0), kind(TOP, 0))
        self.assertEqual(told, [0, 0, 0, -22, -22])

    def test_kind(self):
        told = ask(kind(0, 254), kind(0, 255), kind(0, 256), kind(0, 257), kind(0, TOP))
        self.assertEqual(told, [0, 0, 0, -22, -22])

    def test_both_wrong(self):
        self.assertEqual(ask(kind(1024, 257), kind(TOP, TOP)), [-22, -22])

    def test_the_two_are_not_mistaken_for_one_another(self):
        self.assertEqual(ask(kind(1023, 256), kind(256, 1023)), [0, -22])

    def test_neither_names_nor_former_kinds_are_needed(self):
        self.assertEqual(ask(kind(5, 256), kind(5, 1), kind(5, 1), kind(5, 2), kind(5, 256)), [0] * 5)

    def test_that_specimen_alone_is_in_that_kind(self):
        for specimen, of_kind in ((0, 0), (0, 255), (1023, 0), (1023, 255), (500, 7)):
            book = Book()
            self.assertEqual(book.place_specimen(specimen, of_kind), 0)
            expected = [256] * 1024
            expected[specimen] = of_kind
            self.assertEqual(book.kinds, expected)

    def test_a_specimen_is_in_the_kind_told_last(self):
        book = Book()
        book.place_specimen(3, 10)
        book.place_specimen(4, 10)
        book.place_specimen(3, 11)
        self.assertEqual(book.kinds[3:5], [11, 10])
        book.place_specimen(3, 256)
        self.assertEqual(book.kinds[3:5], [256, 10])

    def test_what_is_refused_moves_no_specimen(self):
        book = Book()
        book.place_specimen(1023, 10)
        before = list(book.kinds)
        told = [book.place_specimen(1023, 257), book.place_specimen(1024, 10), book.place_specimen(1024, 257)]
        self.assertEqual(told, [-22, -22, -22])
        self.assertEqual(book.kinds, before)


if __name__ == "__main__":
    unittest.main()
