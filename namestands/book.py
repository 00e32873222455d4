"""The book of all names told so far, and of what specimens and kinds are thought to belong to."""

from namestands.refusals import FOREIGN, FULL, MISSING, TAKEN, WRONG
from namestands.words import is_genus_word, is_species_word

MOST_GENERA = 256
MOST_SPECIES = 1024
LAST_DAY = 1048576

SPECIMENS = 1024
# One above the last kind: whoever tells this kind says that the specimen is in none.
NO_KIND = 256
# One above the last group, likewise.
NO_GROUP = 64

GENUS_RANK = 0
SPECIES_RANK = 1

NOTHING_RULED = 0
REJECTED = 1
CONSERVED = 2


class Genus:
    """A published genus; its anchor is the number of the species it is tied to, None until told."""

    def __init__(self, word, day):
        self.word = word
        self.day = day
        self.anchor = None
        self.ruling = NOTHING_RULED


class Species:
    """A species published in a genus (by its number), tied to a specimen."""

    def __init__(self, genus, word, day, specimen):
        self.genus = genus
        self.word = word
        self.day = day
        self.specimen = specimen
        self.ruling = NOTHING_RULED


class Book:
    """What has been told since the last begin; a call that is refused leaves it as it was."""

    def __init__(self):
        self.begin()

    def begin(self):
        self.genera = []
        self.species = []
        self.kinds = [NO_KIND] * SPECIMENS
        self.groups = [NO_GROUP] * NO_KIND
        return 0

    def add_genus(self, word, day):
        if not is_genus_word(word) or day > LAST_DAY:
            return WRONG
        if len(self.genera) >= MOST_GENERA:
            return FULL
        self.genera.append(Genus(word, day))
        return len(self.genera) - 1

    def add_species(self, genus, word, day, specimen):
        if not is_species_word(word) or day > LAST_DAY or specimen >= SPECIMENS:
            return WRONG
        if genus >= len(self.genera):
            return MISSING
        if len(self.species) >= MOST_SPECIES:
            return FULL
        self.species.append(Species(genus, word, day, specimen))
        return len(self.species) - 1

    def tie_genus(self, genus, species):
        if genus >= len(self.genera) or species >= len(self.species):
            return MISSING
        tied = self.genera[genus]
        if tied.anchor is not None:
            return TAKEN
        # Words are compared, not numbers: two genera of one word may share their species.
        if self.birth_word(species) != tied.word:
            return FOREIGN
        tied.anchor = species
        return 0

    def birth_word(self, species):
        """The word of the genus in which the species was published."""
        return self.genera[self.species[species].genus].word

    def rule_name(self, rank, number, ruled):
        if rank > SPECIES_RANK or ruled > CONSERVED:
            return WRONG
        names = self.genera if rank == GENUS_RANK else self.species
        if number >= len(names):
            return MISSING
        name = names[number]
        name.ruling = ruled
        return 0

    def place_specimen(self, specimen, kind):
        if specimen >= SPECIMENS or kind > NO_KIND:
            return WRONG
        self.kinds[specimen] = kind
        return 0

    def place_kind(self, kind, group):
        if kind >= NO_KIND or group > NO_GROUP:
            return WRONG
        self.groups[kind] = group
        return 0

    def kind_of_species(self, species):
        return self.kinds[self.species[species].specimen]

    def group_of_species(self, species):
        kind = self.kind_of_species(species)
        return NO_GROUP if kind == NO_KIND else self.groups[kind]

    def group_of_genus(self, genus):
        anchor = self.genera[genus].anchor
        return NO_GROUP if anchor is None else self.group_of_species(anchor)
