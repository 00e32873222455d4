"""The interface: how calls are handed in, how they are answered, and what is left untouched."""

import builtins
import contextlib
import io
import time
import unittest
from unittest import mock

from namestands.desk import UnknownCall, answers
from tests.lines import (
    TOP, genus, genus_of, group, kind, line, many_genera, many_species, name, names, rule, small_words, species,
    split_answers, status, tie, whole_name)

MIXED = line(
    genus("Canis", 20), species(0, "lupus", 30, 5), genus("canis"), species(1, "lupus"), tie(0, 0), tie(0, 0),
    genus("Felis", 10), species(1, "catus", 40, 6), tie(1, 0), rule(0, 1, 2), rule(2, 0, 0), rule(1, 7, 1),
    kind(5, 255), kind(5, 257), group(255, 63), group(256, 63), genus_of(63), genus_of(64), genus_of(0),
    name(255), name(256), name(0), status(0), status(1), status(2), names(255, 0), names(255, 1), names(256, 0),
    [0], genus("Vulpes"), genus(""), kind(1023, 256), group(255, 64), genus_of(63), name(255), status(0),
    names(255, 0),
)
MIXED_ANSWERS = [1, 0, 1, 0, 1, 0, 1, -22, 1, -2, 1, 0, 1, -17, 1, 1, 1, 1, 1, -1, 1, 0, 1, -22, 1, -2,
                 1, 0, 1, -22, 1, 0, 1, -22, 2, 1, 0, 1, -22, 1, 0,
                 15, 1, 0, 0, 5, 5, 67, 97, 110, 105, 115, 108, 117, 112, 117, 115, 1, -22, 1, 0,
                 1, 0, 1, 5, 1, -2, 3, 1, 0, 0, 1, 0, 1, -22,
                 1, 0, 1, 0, 1, -22, 1, 0, 1, 0, 1, 0, 1, 0, 1, -2, 1, 0]

MOST_CALLS = 2000
MOST_NUMBERS = 30000
# Far more than any line of this length takes here, far less than comparing all names with all at each call would.
SECONDS = 20


class Untouchable(list):
    """A list that fails at once whoever changes it, were it only for a while."""

    def fail(self, *args, **kwargs):
        raise AssertionError("what is handed in was changed")

    append = extend = insert = remove = pop = clear = sort = reverse = fail
    __setitem__ = __delitem__ = __iadd__ = __imul__ = fail


class DeskTest(unittest.TestCase):

    def test_calls_as_the_document_writes_them(self):
        calls = [0, 1, 20, 5, 67, 97, 110, 105, 115, 2, 0, 30, 9, 5, 108, 117, 112, 117, 115, 3, 0, 0, 4, 1, 0, 2,
                 5, 9, 17]
        self.assertEqual(answers(calls), [1, 0, 1, 0, 1, 0, 1, 0, 1, 0, 1, 0])

    def test_questions_as_the_document_writes_them(self):
        told = [0, 1, 20, 2, 67, 97, 2, 0, 30, 9, 3, 108, 117, 112, 3, 0, 0, 5, 9, 17, 6, 17, 4]
        asked = [7, 4, 8, 17, 9, 0, 10, 17, 0, 10, 17, 1]
        answered = [2, 1, 0, 10, 1, 0, 0, 2, 3, 67, 97, 108, 117, 112, 1, 0, 3, 1, 0, 0, 1, 0]
        self.assertEqual(answers(told + asked), [1, 0] * 6 + answered)

    def test_each_answer_has_its_count_ahead(self):
        self.assertEqual(answers(MIXED), MIXED_ANSWERS)

    def test_a_refusal_is_its_number_alone(self):
        self.assertEqual(answers([0, 5, 1024, 0]), [1, 0, 1, -22])

    def test_an_empty_word_takes_no_numbers_from_the_next_call(self):
        self.assertEqual(answers([0, 1, 1, 0, 2, 0, 1, 1, 0, 5, 0, 0]), [1, 0, 1, -22, 1, -22, 1, 0])

    def test_a_refused_word_is_passed_over_whole(self):
        long_word = [1, 7, 29000] + [5] * 29000
        self.assertEqual(answers([0] + long_word + [5, 0, 0]), [1, 0, 1, -22, 1, 0])

    def test_numbers_up_to_the_greatest(self):
        calls = line([1, TOP] + [2, 65, 97], [2, TOP, TOP, TOP, 2, 97, 97], [3, TOP, TOP], [4, TOP, TOP, TOP],
                     [5, TOP, TOP], [6, TOP, TOP], [7, TOP], [8, TOP], [9, TOP], [10, TOP, TOP], [10, 0, TOP])
        self.assertEqual(answers(calls), [1, 0, 1, -22, 1, -22, 1, -2, 1, -22, 1, -22, 1, -22, 1, -22, 1, -22, 1, -2,
                                          1, -22, 1, 0])

    def test_answers_are_a_list_of_whole_numbers(self):
        told = answers(MIXED)
        self.assertIs(type(told), list)
        self.assertEqual({type(number) for number in told}, {int})

    def test_as_many_calls_as_may_be(self):
        calls = line(*many_genera(256), *many_species(1024), *[kind(1, 1)] * 719)
        self.assertLessEqual(len(calls), 30000)
        expected = [0] + list(range(256)) + list(range(1024)) + [0] * 719
        told = answers(calls)
        self.assertEqual(told[0::2], [1] * 2000)
        self.assertEqual(told[1::2], expected)

    def ask_long(self, calls):
        self.assertLessEqual(len(calls), MOST_NUMBERS)
        kept = list(calls)
        start = time.monotonic()
        parts = split_answers(answers(calls))
        self.assertLess(time.monotonic() - start, SECONDS)
        self.assertEqual(calls, kept)
        self.assertEqual(len(parts), MOST_CALLS)
        return parts

    def test_many_names_in_one_kind_asked_for_one_by_one(self):
        told = [genus("Canis"), *many_species(990), tie(0, 989), kind(0, 255), group(255, 63)]
        parts = self.ask_long(line(*told, *[names(255, k) for k in range(989)], *[name(255)] * 16))
        self.assertEqual(parts[995:1984], [[1, k, 0 if k == 0 else 1] for k in range(989)])
        self.assertEqual(parts[1984:], [whole_name(0, 0, "Canis", "aaaa")] * 16)

    def test_many_names_of_one_word_in_one_group(self):
        # All are of one word, half of them homonyms from birth, the others homonyms in their group but for one.
        genera = [genus(word.capitalize(), 5) for word in small_words(255)]
        kinds = [kind(k, k % 256) for k in range(256)]
        groups = [group(k, 0) for k in range(256)]
        told = genera + kinds + groups + [species(k % 255, "lupus", 600 - k, k % 256) for k in range(510)]
        parts = self.ask_long(line(*told, *[status(k) for k in range(510)], *[name(k) for k in range(212)]))
        self.assertEqual(parts[1278:1788], [[2]] * 255 + [[3]] * 254 + [[0]])
        self.assertEqual(parts[1788:], [[0]] * 212)

    def test_names_and_moves_by_turns(self):
        # What was found must be found anew behind each move.
        told = [genus("Canis"), *many_species(996), tie(0, 0), kind(0, 1), group(1, 2), group(3, 4)]
        moves = []
        for k in range(249):
            moves += [kind(0, 3), name(3), kind(0, 1), names(1, 995)]
        parts = self.ask_long(line(*told, *moves, status(0), status(995)))
        expected = [[0], whole_name(0, 0, "Canis", "aaaa"), [0], [1, 995, 1]] * 249
        self.assertEqual(parts[-998:], expected + [[0], [1]])

    def test_as_many_numbers_as_may_be(self):
        words = ["x" * 16 + word for word in small_words(1024)]
        told = [genus("Canis", 1), *[species(0, word, 1, 0) for word in words], tie(0, 0), kind(0, 0), group(0, 0)]
        calls = line(*told, *[name(0)] * 970)
        # One call more, with a word that is refused, fills the list up.
        filling = MOST_NUMBERS - len(calls) - 3
        calls += [1, 1, filling] + [65] * filling
        self.assertEqual(len(calls), MOST_NUMBERS)
        parts = self.ask_long(calls)
        self.assertEqual(parts[-971:], [whole_name(0, 0, "Canis", words[0])] * 970 + [[-22]])

    def test_answers_far_longer_than_the_calls(self):
        told = [genus("C" + "a" * 23), species(0, "b" * 24), tie(0, 0), kind(0, 0), group(0, 0)]
        parts = self.ask_long(line(*told, *[name(0)] * 1994))
        self.assertEqual(parts[6:], [whole_name(0, 0, "C" + "a" * 23, "b" * 24)] * 1994)

    def test_no_other_call_has_an_answer(self):
        for call in (11, TOP):
            self.assertRaises(UnknownCall, answers, [0, call])

    def test_what_is_handed_in_is_the_same_afterwards(self):
        calls = list(MIXED)
        answers(calls)
        self.assertEqual(calls, MIXED)

    def test_what_is_handed_in_is_not_changed_for_a_while_either(self):
        self.assertEqual(answers(Untouchable(MIXED)), MIXED_ANSWERS)

    def test_the_same_list_is_answered_the_same_way_again(self):
        calls = list(MIXED)
        self.assertEqual(answers(calls), MIXED_ANSWERS)
        self.assertEqual(answers(calls), MIXED_ANSWERS)

    def test_nothing_is_kept_from_another_list(self):
        answers(line(*many_genera(256), *many_species(1024), tie(0, 0), rule(0, 0, 1), kind(0, 0), group(0, 0),
                     name(0)))
        self.assertEqual(answers(MIXED), MIXED_ANSWERS)
        self.assertEqual(answers(line(rule(0, 0, 0), rule(1, 0, 0), status(0))), [1, 0, 1, -2, 1, -2, 1, -2])
        named = [genus("Canis"), species(0, "lupus", 1, 0), tie(0, 0)]
        self.assertEqual(answers(line(*named, group(0, 0), name(0)))[-2:], [1, 0])
        self.assertEqual(answers(line(*named, kind(0, 0), name(0)))[-2:], [1, 0])

    def test_a_changed_answer_does_not_change_the_next_one(self):
        told = answers(MIXED)
        told.clear()
        self.assertEqual(answers(MIXED), MIXED_ANSWERS)

    def test_nothing_is_printed_read_or_imported(self):
        out = io.StringIO()
        forbidden = mock.Mock(side_effect=AssertionError("not to be called"))
        with contextlib.redirect_stdout(out), contextlib.redirect_stderr(out), \
                mock.patch.object(builtins, "open", forbidden), \
                mock.patch.object(builtins, "input", forbidden), \
                mock.patch.object(builtins, "__import__", forbidden):
            told = answers(MIXED)
        self.assertEqual(told, MIXED_ANSWERS)
        self.assertEqual(out.getvalue(), "")


if __name__ == "__main__":
    unittest.main()
