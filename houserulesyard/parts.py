"""What a house is made of."""


class Thing:
    """A thing: its kind is "in" or "out", its values go from 0 to its top."""

    def __init__(self, kind, name, top):
        self.kind = kind
        self.name = name
        self.top = top


class Entry:
    """A rule, or a ban, which sets no thing: thing and value are None then."""

    def __init__(self, words, condition, thing, value):
        self.words = words
        self.condition = condition
        self.thing = thing
        self.value = value


class House:
    """The things and the entries of a house, each by its number."""

    def __init__(self, things, entries):
        self.things = things
        self.entries = entries


def thing_called(name, things):
    """The number of the thing that has this name; None if none has."""
    for number, thing in enumerate(things):
        if thing.name == name:
            return number
    return None


def count_states(things):
    """How many states a house with these things has."""
    states = 1
    for thing in things:
        states = states * (thing.top + 1)
    return states
