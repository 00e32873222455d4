"""Which names have priority over which."""

from namestands.book import CONSERVED


def by_priority(names):
    """The numbers of all these genera, or all these species, those that have priority first."""
    return sorted(range(len(names)), key=lambda number: priority_key(names[number], number))


def priority_key(name, number):
    """Of two names the one of the lesser key has priority."""
    return (0 if name.ruling == CONSERVED else 1, name.day, number)
