"""The interface: how calls are handed in, how they are answered, and what is left untouched."""

import builtins
import contextlib
import io
import unittest
from unittest import mock

from namestands.desk import answers
from tests.lines import TOP, genus, kind, line, many_genera, many_species, rule, species, tie

MIXED = line(
    genus("Canis", 20), species(0, "lupus", 30, 5), genus("canis"), species(1, "lupus"), tie(0, 0), tie(0, 0),
    genus("Felis", 10), species(1, "catus", 40, 6), tie(1, 0), rule(0, 1, 2), rule(2, 0, 0), rule(1, 7, 1),
    kind(5, 255), kind(5, 257), [0], genus("Vulpes"), genus(""), kind(1023, 256),
)
MIXED_ANSWERS = [1, 0, 1, 0, 1, 0, 1, -22, 1, -2, 1, 0, 1, -17, 1, 1, 1, 1, 1, -1, 1, 0, 1, -22, 1, -2,
                 1, 0, 1, -22, 1, 0, 1, 0, 1, -22, 1, 0]


class Untouchable(list):
    """A list that fails at once whoever changes it, were it only for a while."""

    def fail(self, *args, **kwargs):
        raise AssertionError("what is handed in was changed")

    append = extend = insert = remove = pop = clear = sort = reverse = fail
    __setitem__ = __delitem__ = __iadd__ = __imul__ = fail


class DeskTest(unittest.TestCase):

    def test_calls_as_the_document_writes_them(self):
        calls = [0, 1, 20, 5, 67, 97, 110, 105, 115, 2, 0, 30, 9, 5, 108, 117, 112, 117, 115, 3, 0, 0, 4, 1, 0, 2,
                 5, 9, 17]
        self.assertEqual(answers(calls), [1, 0, 1, 0, 1, 0, 1, 0, 1, 0, 1, 0])

    def test_each_answer_has_its_count_ahead(self):
        self.assertEqual(answers(MIXED), MIXED_ANSWERS)

    def test_a_refusal_is_its_number_alone(self):
        self.assertEqual(answers([0, 5, 1024, 0]), [1, 0, 1, -22])

    def test_an_empty_word_takes_no_numbers_from_the_next_call(self):
        self.assertEqual(answers([0, 1, 1, 0, 2, 0, 1, 1, 0, 5, 0, 0]), [1, 0, 1, -22, 1, -22, 1, 0])

    def test_a_refused_word_is_passed_over_whole(self):
        long_word = [1, 7, 29000] + [5] * 29000
        self.assertEqual(answers([0] + long_word + [5, 0, 0]), [1, 0, 1, -22, 1, 0])

    def test_numbers_up_to_the_greatest(self):
        calls = line([1, TOP] + [2, 65, 97], [2, TOP, TOP, TOP, 2, 97, 97], [3, TOP, TOP], [4, TOP, TOP, TOP],
                     [5, TOP, TOP])
        self.assertEqual(answers(calls), [1, 0, 1, -22, 1, -22, 1, -2, 1, -22, 1, -22])

    def test_answers_are_a_list_of_whole_numbers(self):
        told = answers(MIXED)
        self.assertIs(type(told), list)
        self.assertEqual({type(number) for number in told}, {int})

    def test_as_many_calls_as_may_be(self):
        calls = line(*many_genera(256), *many_species(1024), *[kind(1, 1)] * 719)
        self.assertLessEqual(len(calls), 30000)
        expected = [0] + list(range(256)) + list(range(1024)) + [0] * 719
        told = answers(calls)
        self.assertEqual(told[0::2], [1] * 2000)
        self.assertEqual(told[1::2], expected)

    def test_what_is_handed_in_is_the_same_afterwards(self):
        calls = list(MIXED)
        answers(calls)
        self.assertEqual(calls, MIXED)

    def test_what_is_handed_in_is_not_changed_for_a_while_either(self):
        self.assertEqual(answers(Untouchable(MIXED)), MIXED_ANSWERS)

    def test_the_same_list_is_answered_the_same_way_again(self):
        calls = list(MIXED)
        self.assertEqual(answers(calls), MIXED_ANSWERS)
        self.assertEqual(answers(calls), MIXED_ANSWERS)

    def test_nothing_is_kept_from_another_list(self):
        answers(line(*many_genera(256), *many_species(1024), tie(0, 0), rule(0, 0, 1), kind(0, 0)))
        self.assertEqual(answers(MIXED), MIXED_ANSWERS)
        self.assertEqual(answers(line(rule(0, 0, 0), rule(1, 0, 0))), [1, 0, 1, -2, 1, -2])

    def test_a_changed_answer_does_not_change_the_next_one(self):
        told = answers(MIXED)
        told.clear()
        self.assertEqual(answers(MIXED), MIXED_ANSWERS)

    def test_nothing_is_printed_read_or_imported(self):
        out = io.StringIO()
        forbidden = mock.Mock(side_effect=AssertionError("not to be called"))
        with contextlib.redirect_stdout(out), contextlib.redirect_stderr(out), \
                mock.patch.object(builtins, "open", forbidden), \
                mock.patch.object(builtins, "input", forbidden), \
                mock.patch.object(builtins, "__import__", forbidden):
            told = answers(MIXED)
        self.assertEqual(told, MIXED_ANSWERS)
        self.assertEqual(out.getvalue(), "")


if __name__ == "__main__":
    unittest.main()
