"""Builds lines of calls for the tests, and takes their answers apart."""

from namestands.desk import answers

TOP = 4294967295
BEGIN = [0]


def letters(word):
    return tuple(word.encode("latin-1"))


def row(word):
    numbers = letters(word) if isinstance(word, str) else word
    return [len(numbers), *numbers]


def genus(word, day=1):
    return [1, day] + row(word)


def species(of_genus, word, day=1, specimen=0):
    return [2, of_genus, day, specimen] + row(word)


def tie(of_genus, of_species):
    return [3, of_genus, of_species]


def rule(rank, name, ruled):
    return [4, rank, name, ruled]


def kind(specimen, of_kind):
    return [5, specimen, of_kind]


def group(of_kind, in_group):
    return [6, of_kind, in_group]


def genus_of(in_group):
    return [7, in_group]


def name(of_kind):
    return [8, of_kind]


def status(of_species):
    return [9, of_species]


def names(of_kind, k):
    return [10, of_kind, k]


def line(*calls):
    """The calls one behind another, behind a begin."""
    joined = list(BEGIN)
    for call in calls:
        joined.extend(call)
    return joined


def split_answers(told):
    parts = []
    at = 0
    while at < len(told):
        count = told[at]
        parts.append(told[at + 1:at + 1 + count])
        at += 1 + count
    assert at == len(told), "the last answer is cut off"
    return parts


def ask_whole(*calls):
    """All numbers that each of these calls answers, asked behind a begin."""
    parts = split_answers(answers(line(*calls)))
    assert len(parts) == len(calls) + 1, "not one answer a call"
    assert parts[0] == [0], "begin is not answered by 0"
    return parts[1:]


def ask(*calls):
    """The one number that each of these calls answers, asked behind a begin."""
    parts = ask_whole(*calls)
    for part in parts:
        assert len(part) == 1, "not one number an answer"
    return [part[0] for part in parts]


def ask_behind(told, *questions):
    """All numbers that these questions answer behind the calls told, of which none is refused."""
    parts = ask_whole(*told, *questions)
    for call, part in zip(told, parts):
        assert part[0] >= 0, f"{call} is refused by {part[0]}"
    return parts[len(told):]


def whole_name(of_genus, of_species, genus_word, species_word):
    """What name answers when the kind has this name."""
    return [1, of_genus, of_species, len(genus_word), len(species_word), *letters(genus_word + species_word)]


def members(told, of_kind):
    """The (number, status) of all species in the kind, as names tells them behind the calls told."""
    parts = ask_behind(told, *[names(of_kind, k) for k in range(1 + len(told))])
    found = [part for part in parts if part != [0]]
    assert parts == found + [[0]] * (len(parts) - len(found)), "a place behind the last one is taken"
    assert all(len(part) == 3 and part[0] == 1 for part in found), "not 1 and two numbers"
    return [(part[1], part[2]) for part in found]


def small_words(how_many):
    """Different words of four small letters."""
    return ["a" + chr(97 + k // 26 % 26) + chr(97 + k % 26) + chr(97 + k // 676) for k in range(how_many)]


def many_genera(how_many):
    return [genus(word.capitalize()) for word in small_words(how_many)]


def many_species(how_many):
    return [species(0, word) for word in small_words(how_many)]
