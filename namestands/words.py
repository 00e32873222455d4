"""What may be a word of a genus or of a species; words are tuples of letters' numbers."""

SHORTEST = 2
LONGEST = 24


def is_genus_word(word):
    return has_word_length(word) and is_great(word[0]) and are_small(word[1:])


def is_species_word(word):
    return has_word_length(word) and are_small(word)


def has_word_length(word):
    return SHORTEST <= len(word) <= LONGEST


def is_great(letter):
    return 65 <= letter <= 90


def is_small(letter):
    return 97 <= letter <= 122


def are_small(letters):
    return all([is_small(letter) for letter in letters])
