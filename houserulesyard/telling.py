"""Telling a house, its parts, and how it is judged."""

from houserulesyard.judging import BROKEN, FINE
from houserulesyard.refusals import NO_SUCH
from houserulesyard.signs import bytes_of


def counted(numbers):
    """How many numbers there are, then these."""
    return [len(numbers)] + numbers


def thing_line(thing):
    """The line of a thing, as it's told."""
    return " ".join([thing.kind, thing.name, str(thing.top)])


def entry_line(entry):
    """The line of an entry, as it's told."""
    return " ".join(entry.words)


def tell_house(house):
    """The call tell."""
    lines = [thing_line(thing) for thing in house.things] + [entry_line(entry) for entry in house.entries]
    return counted(bytes_of("".join([line + "\n" for line in lines])))


def tell_line(house, number):
    """The call line."""
    if number >= len(house.entries):
        return [NO_SUCH]
    return counted(bytes_of(entry_line(house.entries[number])))


def tell_name(house, number):
    """The call name."""
    if number >= len(house.things):
        return [NO_SUCH]
    return counted(bytes_of(house.things[number].name))


def find_thing(house, row):
    """The call find."""
    # Compared as bytes: what is handed in may hold bytes that no name has.
    for number, thing in enumerate(house.things):
        if bytes_of(thing.name) == row:
            return [number, thing.top]
    return [NO_SUCH]


def tell_way(way):
    """Two numbers for each event of a way."""
    told = []
    for event in way:
        told.extend(event)
    return told


def tell_verdict(verdict):
    """How a house is judged, with the way that tells it."""
    if verdict.outcome == FINE:
        return [FINE]
    if verdict.outcome == BROKEN:
        return [BROKEN, verdict.ban] + tell_way(verdict.way)
    return [verdict.outcome] + tell_way(verdict.way)
