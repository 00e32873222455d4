"""The calls that ask how names stand; each answers a list: a refusal alone, or 0, or 1 and what else is told."""

from namestands.book import NO_GROUP, NO_KIND
from namestands.refusals import MISSING, WRONG

NOTHING_THERE = 0
FOUND = 1


def tell_group_name(standing, group):
    if group >= NO_GROUP:
        return [WRONG]
    genus = standing.group_names.get(group)
    if genus is None:
        return [NOTHING_THERE]
    return [FOUND, genus]


def tell_kind_name(book, standing, kind):
    if kind >= NO_KIND:
        return [WRONG]
    genus = standing.group_names.get(book.groups[kind])
    species = standing.kind_words.get(kind)
    if genus is None or species is None:
        return [NOTHING_THERE]
    genus_word = list(book.genera[genus].word)
    species_word = list(book.species[species].word)
    return [FOUND, genus, species, len(genus_word), len(species_word)] + genus_word + species_word


def tell_status(standing, species):
    if species >= len(standing.statuses):
        return [MISSING]
    return [standing.statuses[species]]


def tell_kind_member(standing, kind, place):
    if kind >= NO_KIND:
        return [WRONG]
    members = standing.kind_members.get(kind, [])
    if place >= len(members):
        return [NOTHING_THERE]
    species = members[place]
    return [FOUND, species, standing.statuses[species]]
