"""What holds (a and b), and the definitions themselves, on lines of many calls."""

import random
import unittest

from tests.lines import (
    ask_whole, genus, genus_of, group, kind, letters, name, names, rule, species, status, tie)

GENUS_WORDS = ("Ab", "Abc", "Canis", "Vulpes", "Lynx")
SPECIES_WORDS = ("cd", "de", "lupus", "niger", "ater", "aureus")
SPECIMENS = (0, 1, 2, 3, 500, 1022, 1023)
KINDS = (0, 1, 2, 3, 254, 255)
GROUPS = (0, 1, 63)
LINES = 60
LAST_DAY = 1048576


def random_call(dice):
    """A call that tells something; mostly of few names and places, so that they meet often."""
    call = dice.choice((1, 2, 2, 2, 2, 3, 3, 4, 4, 5, 5, 5, 6, 6))
    if call == 1:
        return genus(dice.choice(GENUS_WORDS), dice.randrange(6))
    if call == 2:
        return species(dice.randrange(8), dice.choice(SPECIES_WORDS), dice.randrange(6), dice.choice(SPECIMENS))
    if call == 3:
        return tie(dice.randrange(8), dice.randrange(20))
    if call == 4:
        return rule(dice.randrange(2), dice.randrange(12), dice.randrange(3))
    if call == 5:
        return kind(dice.choice(SPECIMENS), dice.choice(KINDS + (256, 257)))
    return group(dice.choice(KINDS + (256,)), dice.choice(GROUPS * 2 + (64, 65)))


def random_line(seed, how_many=120):
    dice = random.Random(seed)
    told = [genus(dice.choice(GENUS_WORDS), dice.randrange(6)) for each in range(5)]
    told += [kind(specimen, dice.choice(KINDS)) for specimen in SPECIMENS]
    told += [group(of_kind, dice.choice(GROUPS)) for of_kind in KINDS]
    return told + [random_call(dice) for each in range(how_many)]


class Names:
    """The document's definitions one by one, each as it stands there, with no thought of speed."""

    def __init__(self):
        self.genera = []
        self.species = []
        self.kinds = {}
        self.groups = {}

    def hear(self, call, answer):
        """Keeps what the call tells; whether it was refused is taken from its answer."""
        if answer[0] < 0:
            return
        if call[0] == 1:
            self.genera.append({"day": call[1], "word": call[3:], "type": None, "ruled": 0})
        elif call[0] == 2:
            self.species.append({"genus": call[1], "day": call[2], "type": call[3], "word": call[5:], "ruled": 0})
        elif call[0] == 3:
            self.genera[call[1]]["type"] = call[2]
        elif call[0] == 4:
            (self.genera, self.species)[call[1]][call[2]]["ruled"] = call[3]
        elif call[0] == 5:
            self.kinds[call[1]] = call[2] if call[2] < 256 else None
        elif call[0] == 6:
            self.groups[call[1]] = call[2] if call[2] < 64 else None

    def has_priority(self, among, one, other):
        conserved, other_conserved = among[one]["ruled"] == 2, among[other]["ruled"] == 2
        if conserved != other_conserved:
            return conserved
        if among[one]["day"] != among[other]["day"]:
            return among[one]["day"] < among[other]["day"]
        return one < other

    def first(self, among, numbers):
        for one in numbers:
            if all(self.has_priority(among, one, other) for other in numbers if other != one):
                return one
        return None

    def birth_word(self, number):
        return self.genera[self.species[number]["genus"]]["word"]

    def good_genus(self, one):
        if self.genera[one]["ruled"] == 1:
            return False
        return not any(other != one and self.genera[other]["ruled"] != 1
                       and self.genera[other]["word"] == self.genera[one]["word"]
                       and self.has_priority(self.genera, other, one) for other in range(len(self.genera)))

    def good_species(self, one):
        if self.species[one]["ruled"] == 1:
            return False
        return not any(other != one and self.species[other]["ruled"] != 1
                       and self.species[other]["word"] == self.species[one]["word"]
                       and self.birth_word(other) == self.birth_word(one)
                       and self.has_priority(self.species, other, one) for other in range(len(self.species)))

    def kind_of(self, number):
        return self.kinds.get(self.species[number]["type"])

    def group_of(self, number):
        return self.groups.get(self.kind_of(number))

    def group_of_genus(self, number):
        return None if self.genera[number]["type"] is None else self.group_of(self.genera[number]["type"])

    def group_name(self, in_group):
        return self.first(self.genera, [number for number in range(len(self.genera))
                                        if self.good_genus(number) and self.group_of_genus(number) == in_group])

    def homonym_in_group(self, one):
        return any(other != one and self.good_species(other) and self.group_of(other) == self.group_of(one)
                   and self.species[other]["word"] == self.species[one]["word"]
                   and self.has_priority(self.species, other, one) for other in range(len(self.species)))

    def kind_word(self, of_kind):
        if self.groups.get(of_kind) is None:
            return None
        return self.first(self.species, [number for number in self.members(of_kind)
                                         if self.good_species(number) and not self.homonym_in_group(number)])

    def members(self, of_kind):
        return [number for number in range(len(self.species)) if self.kind_of(number) == of_kind]

    def name(self, of_kind):
        word = self.kind_word(of_kind)
        if word is None or self.group_name(self.groups[of_kind]) is None:
            return [0]
        genus_number = self.group_name(self.groups[of_kind])
        genus_word, species_word = self.genera[genus_number]["word"], self.species[word]["word"]
        return [1, genus_number, word, len(genus_word), len(species_word), *genus_word, *species_word]

    def status(self, number):
        if self.species[number]["ruled"] == 1:
            return 4
        if not self.good_species(number):
            return 2
        if self.kind_of(number) is None or self.group_of(number) is None:
            return 5
        if self.homonym_in_group(number):
            return 3
        return 0 if self.kind_word(self.kind_of(number)) == number else 1

    def names(self, of_kind, k):
        left = self.members(of_kind)
        for each in range(k):
            left = [number for number in left if number != self.first(self.species, left)]
        found = self.first(self.species, left)
        return [0] if found is None else [1, found, self.status(found)]


class DefinitionsTest(unittest.TestCase):

    def check_all(self, told, parts, model):
        asked = [(genus_of(number), self.group_answer(model, number)) for number in GROUPS]
        asked += [(name(of_kind), model.name(of_kind)) for of_kind in KINDS]
        asked += [(status(number), [model.status(number)]) for number in range(len(model.species))]
        asked += [(names(of_kind, k), model.names(of_kind, k))
                  for of_kind in KINDS for k in range(len(model.members(of_kind)) + 1)]
        answered = ask_whole(*told, *[question for question, expected in asked])
        self.assertEqual(answered[:len(told)], parts)
        self.assertEqual(answered[len(told):], [expected for question, expected in asked])

    def group_answer(self, model, in_group):
        found = model.group_name(in_group)
        return [0] if found is None else [1, found]

    def test_all_answers_are_what_the_definitions_say(self):
        for seed in range(LINES):
            told = random_line(seed, 20 + seed)
            parts = ask_whole(*told)
            model = Names()
            for call, answer in zip(told, parts):
                model.hear(call, answer)
            with self.subTest(seed=seed):
                self.check_all(told, parts, model)

    def test_questions_between_other_calls_are_answered_as_if_asked_alone(self):
        for seed in range(10):
            told = random_line(seed, 30)
            parts = ask_whole(*told)
            model = Names()
            calls, expected = [], []
            for call, answer in zip(told, parts):
                model.hear(call, answer)
                calls += [call, name(seed % 4), names(seed % 3, 0)]
                expected += [answer, model.name(seed % 4), model.names(seed % 3, 0)]
            self.assertEqual(ask_whole(*calls), expected)

    def test_the_lines_have_all_there_is_to_have(self):
        # Otherwise the tests above and below would hold of nothing.
        found = {}
        for seed in range(LINES):
            told = random_line(seed)
            for part in ask_whole(*told, *[status(number) for number in range(60)])[len(told):]:
                found[part[0]] = found.get(part[0], 0) + 1
            for part in ask_whole(*told, *[name(of_kind) for of_kind in KINDS])[len(told):]:
                found["name", part[0]] = found.get(("name", part[0]), 0) + 1
        for each in (0, 1, 2, 3, 4, 5, ("name", 0), ("name", 1)):
            self.assertGreater(found.get(each, 0), 20, each)


class WhatHoldsTest(unittest.TestCase):

    def words(self, told):
        """The species that is a kind's word, by its kind, for each kind that has one."""
        calls = [names(of_kind, k) for of_kind in KINDS for k in range(80)]
        parts = ask_whole(*told, *calls)[len(told):]
        return {call[1]: part[1] for call, part in zip(calls, parts) if part[0] == 1 and part[2] == 0}

    def how_many_species(self, told):
        return len([part for call, part in zip(told, ask_whole(*told)) if call[0] == 2 and part[0] >= 0])

    def test_no_two_kinds_have_one_name(self):
        for seed in range(LINES):
            told = random_line(seed)
            parts = ask_whole(*told, *[name(of_kind) for of_kind in range(256)])[len(told):]
            found = [tuple(part[3:]) for part in parts if part[0] == 1]
            self.assertEqual(len(set(found)), len(found), seed)

    def test_no_two_groups_have_one_name(self):
        for seed in range(LINES):
            told = random_line(seed)
            parts = ask_whole(*told, *[genus_of(number) for number in range(64)])[len(told):]
            genera = [call for call, part in zip(told, ask_whole(*told)) if call[0] == 1 and part[0] >= 0]
            found = [tuple(genera[part[1]][3:]) for part in parts if part[0] == 1]
            self.assertEqual(len(set(found)), len(found), seed)

    def test_all_kinds_and_groups_at_once(self):
        # 256 kinds, four in each group, of 64 genera; every kind has a word that others of other genera have too.
        words = ["a" + chr(97 + k // 16) + chr(97 + k % 16) for k in range(64)]
        told = [genus("G" + word, 1) for word in words]
        told += [species(k % 64, words[k // 4], 1, k) for k in range(256)]
        told += [tie(k, k) for k in range(64)]
        told += [kind(k, k) for k in range(256)] + [group(k, k % 64) for k in range(256)]
        parts = ask_whole(*told, *[name(of_kind) for of_kind in range(256)])[len(told):]
        self.assertEqual([part[:3] for part in parts], [[1, k % 64, k] for k in range(256)])
        self.assertEqual(len({tuple(part[3:]) for part in parts}), 256)
        self.assertEqual(parts[65][3:], [4, 3, *letters("G" + words[1]), *letters(words[16])])

    def test_a_kinds_word_has_priority_over_all_others_that_it_could_have(self):
        for seed in range(LINES):
            told = random_line(seed)
            for of_kind in KINDS:
                parts = ask_whole(*told, *[names(of_kind, k) for k in range(80)])[len(told):]
                could_be = [part[2] for part in parts if part[0] == 1 and part[2] in (0, 1)]
                self.assertEqual(could_be, [0] * len(could_be[:1]) + [1] * len(could_be[1:]), (seed, of_kind))

    def test_a_name_published_later_than_all_others_changes_no_word(self):
        for seed in range(LINES):
            dice = random.Random(1000 + seed)
            told = random_line(seed)
            before = self.words(told)
            later = species(dice.randrange(5), dice.choice(SPECIES_WORDS), LAST_DAY, dice.choice(SPECIMENS))
            after = self.words(told + [later])
            self.assertEqual({of_kind: after[of_kind] for of_kind in before}, before, seed)
            self.assertEqual(self.words(told + [genus(dice.choice(GENUS_WORDS), LAST_DAY)]), before, seed)

    def test_a_name_of_the_last_day_told_last_is_published_later_too(self):
        # All days are below 6, so that on day 5 the number alone makes it later.
        for seed in range(LINES):
            dice = random.Random(2000 + seed)
            told = random_line(seed)
            before = self.words(told)
            after = self.words(told + [species(dice.randrange(5), dice.choice(SPECIES_WORDS), 5,
                                               dice.choice(SPECIMENS))])
            self.assertEqual({of_kind: after[of_kind] for of_kind in before}, before, seed)

    def test_a_rejected_name_changes_no_word(self):
        for seed in range(LINES):
            dice = random.Random(3000 + seed)
            told = random_line(seed)
            before = self.words(told)
            number = self.how_many_species(told)
            rejected = [species(dice.randrange(5), dice.choice(SPECIES_WORDS), 0, dice.choice(SPECIMENS)),
                        rule(1, number, 1)]
            self.assertEqual(self.words(told + rejected), before, seed)

    def test_a_rejected_genus_changes_no_groups_name(self):
        asked = [genus_of(number) for number in GROUPS]
        for seed in range(LINES):
            told = random_line(seed)
            number = len([part for call, part in zip(told, ask_whole(*told)) if call[0] == 1 and part[0] >= 0])
            rejected = [genus(GENUS_WORDS[seed % 5], 0), rule(0, number, 1)]
            before = ask_whole(*told, *asked)[len(told):]
            self.assertEqual(ask_whole(*told, *rejected, *asked)[len(told) + 2:], before, seed)

    def test_what_is_thought_of_specimens_elsewhere_changes_no_word(self):
        # Kinds 0 and 1 stay in group 0 with their specimens; all others are in other groups and move there.
        for seed in range(LINES):
            dice = random.Random(4000 + seed)
            told = random_line(seed)
            told += [kind(0, 0), kind(1, 1), kind(2, 1), group(0, 0), group(1, 0)]
            told += [kind(specimen, dice.choice(KINDS[2:])) for specimen in SPECIMENS[3:]]
            told += [group(of_kind, dice.choice((1, 63))) for of_kind in KINDS[2:]]
            before = self.words(told)
            moves = [kind(specimen, dice.choice(KINDS[2:] + (256,))) for specimen in SPECIMENS[3:]]
            moves += [group(of_kind, dice.choice((1, 63, 64))) for of_kind in KINDS[2:]]
            after = self.words(told + moves)
            self.assertEqual([after.get(0), after.get(1)], [before.get(0), before.get(1)], seed)


if __name__ == "__main__":
    unittest.main()
