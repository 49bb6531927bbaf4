"""Telling a house, and how it is judged."""

from houserulesyard.judging import BROKEN, FINE
from houserulesyard.signs import bytes_of


def thing_line(thing):
    """The line of a thing, as it's told."""
    return " ".join([thing.kind, thing.name, str(thing.top)])


def entry_line(entry):
    """The line of an entry, as it's told."""
    return " ".join(entry.words)


def tell_house(house):
    """How many bytes the house told has, then these."""
    lines = [thing_line(thing) for thing in house.things] + [entry_line(entry) for entry in house.entries]
    told = bytes_of("".join([line + "\n" for line in lines]))
    return [len(told)] + told


def tell_way(way):
    """Two numbers for each event of a way."""
    told = []
    for event in way:
        told.extend(event)
    return told


def tell_verdict(verdict):
    """How a house is judged, with the way that tells it."""
    if verdict.outcome == FINE:
        return [FINE]
    if verdict.outcome == BROKEN:
        return [BROKEN, verdict.ban] + tell_way(verdict.way)
    return [verdict.outcome] + tell_way(verdict.way)
