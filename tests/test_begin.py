"""Point 1: begin."""

import unittest

from namestands.book import Book
from namestands.desk import answers
from tests.lines import ask, genus, kind, line, many_genera, rule, species, split_answers, tie, letters


class BeginTest(unittest.TestCase):

    def test_begin_answers_0(self):
        self.assertEqual(answers([0]), [1, 0])

    def test_begin_may_be_called_again_at_once(self):
        self.assertEqual(answers([0, 0, 0]), [1, 0, 1, 0, 1, 0])

    def test_at_first_there_are_no_names(self):
        told = ask(species(0, "lupus"), tie(0, 0), rule(0, 0, 0), rule(1, 0, 0))
        self.assertEqual(told, [-2, -2, -2, -2])

    def test_begin_again_forgets_all_names(self):
        told = ask(genus("Canis"), species(0, "lupus"), [0],
                   rule(0, 0, 0), rule(1, 0, 0), tie(0, 0), species(0, "lupus"))
        self.assertEqual(told, [0, 0, 0, -2, -2, -2, -2])

    def test_begin_again_numbers_from_0_again(self):
        calls = [genus("Canis"), species(0, "lupus"), genus("Felis"), species(1, "catus")]
        self.assertEqual(ask(*calls, [0], *calls), [0, 0, 1, 1, 0, 0, 0, 1, 1])

    def test_begin_again_forgets_that_the_genus_has_a_type(self):
        calls = [genus("Canis"), species(0, "lupus"), tie(0, 0)]
        self.assertEqual(ask(*calls, [0], *calls), [0, 0, 0, 0, 0, 0, 0])

    def test_begin_again_makes_room_for_256_genera(self):
        told = ask(*many_genera(256), [0], *many_genera(257))
        self.assertEqual(told, list(range(256)) + [0] + list(range(256)) + [-28])

    def test_begin_again_forgets_rulings_and_kinds(self):
        book = Book()
        book.add_genus(letters("Canis"), 1)
        book.rule_name(0, 0, 1)
        book.place_specimen(7, 3)
        self.assertEqual(book.begin(), 0)
        self.assertEqual(book.kinds, [256] * 1024)
        self.assertEqual((book.genera, book.species), ([], []))
        book.add_genus(letters("Canis"), 1)
        self.assertEqual(book.genera[0].ruling, 0)

    def test_at_first_no_specimen_is_in_a_kind(self):
        self.assertEqual(Book().kinds, [256] * 1024)

    def test_a_begin_between_other_calls_is_answered_in_its_place(self):
        told = answers(line(kind(1024, 0), [0], genus("Canis")))
        self.assertEqual(split_answers(told), [[0], [-22], [0], [0]])


if __name__ == "__main__":
    unittest.main()
