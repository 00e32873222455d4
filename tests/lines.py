"""Builds lines of calls for the tests, and takes their answers apart."""

from namestands.desk import answers

TOP = 4294967295
BEGIN = [0]


def letters(word):
    return list(word.encode("latin-1"))


def row(word):
    numbers = letters(word) if isinstance(word, str) else list(word)
    return [len(numbers)] + numbers


def genus(word, day=1):
    return [1, day] + row(word)


def species(of_genus, word, day=1, specimen=0):
    return [2, of_genus, day, specimen] + row(word)


def tie(of_genus, of_species):
    return [3, of_genus, of_species]


def rule(rank, name, ruled):
    return [4, rank, name, ruled]


def kind(specimen, of_kind):
    return [5, specimen, of_kind]


def line(*calls):
    """The calls one behind another, behind a begin."""
    joined = list(BEGIN)
    for call in calls:
        joined.extend(call)
    return joined


def split_answers(told):
    parts = []
    at = 0
    while at < len(told):
        count = told[at]
        parts.append(told[at + 1:at + 1 + count])
        at += 1 + count
    assert at == len(told), "the last answer is cut off"
    return parts


def ask(*calls):
    """The one number that each of these calls answers, asked behind a begin."""
    parts = split_answers(answers(line(*calls)))
    assert len(parts) == len(calls) + 1, "not one answer a call"
    assert parts[0] == [0], "begin is not answered by 0"
    for part in parts:
        assert len(part) == 1, "not one number an answer"
    return [part[0] for part in parts[1:]]


def small_words(how_many):
    """Different words of four small letters."""
    return ["a" + chr(97 + k // 26 % 26) + chr(97 + k % 26) + chr(97 + k // 676) for k in range(how_many)]


def many_genera(how_many):
    return [genus(word.capitalize()) for word in small_words(how_many)]


def many_species(how_many):
    return [species(0, word) for word in small_words(how_many)]
