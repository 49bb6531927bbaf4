"""How a house settles, what can come to be, and how it is judged.

A state is a tuple of values, one for each thing; an event is a tuple of a thing and a value; a way is a
tuple of events.
"""

from houserulesyard.conditions import holds

FINE = 0
ENDLESS = 1
BROKEN = 2


class Passes:
    """What a pass by some entries makes of each state."""

    def __init__(self, entries):
        self.entries = entries
        self.known = {}

    def after(self, state):
        """The state behind a pass."""
        # Many ways come by the same states: each is worked out once.
        if state not in self.known:
            self.known[state] = after_pass(self.entries, state)
        return self.known[state]


class Reach:
    """What can come to be: the first shortest way to each state, in the order of these ways.

    Where some way goes on for ever, endless is the first shortest one, and the ways are not all told.
    """

    def __init__(self, ways, endless):
        self.ways = ways
        self.endless = endless


class Verdict:
    """How a house is judged: where it settles if it's fine, else the way that tells what's wrong."""

    def __init__(self, outcome, ban, way, settled):
        self.outcome = outcome
        self.ban = ban
        self.way = way
        self.settled = settled


def deciding_rule(entries, thing, state):
    """The number of the rule that decides a thing in a state; None if none does."""
    for number, entry in enumerate(entries):
        if entry.thing == thing and holds(entry.condition, state):
            return number
    return None


def after_pass(entries, state):
    """The state behind a pass over a state."""
    values = []
    for thing, value in enumerate(state):
        rule = deciding_rule(entries, thing, state)
        values.append(value if rule is None else entries[rule].value)
    return tuple(values)


def trail(passes, state):
    """The states that passes go through, from this one to the settled one; None if they go on for ever."""
    gone = {}
    while state not in gone:
        gone[state] = True
        following = passes.after(state)
        if following == state:
            return list(gone)
        state = following
    return None


def with_value(state, thing, value):
    """A state, but that a thing has this value."""
    return state[:thing] + (value,) + state[thing + 1:]


def events_of(things):
    """All events that can happen to these things, the lesser first."""
    events = []
    for number, thing in enumerate(things):
        for value in range(thing.top + 1):
            events.append((number, value))
    return events


def reach_from(things, passes, start):
    """What can come to be from a state that's settled."""
    # First come, first gone on from, and by the lesser event first: so the first way found to a state is
    # its first shortest one.
    events = events_of(things)
    ways = {start: ()}
    found = [start]
    place = 0
    while place < len(found):
        state = found[place]
        place += 1
        for event in events:
            way = ways[state] + (event,)
            states = trail(passes, with_value(state, event[0], event[1]))
            if states is None:
                return Reach(ways, way)
            if states[-1] not in ways:
                ways[states[-1]] = way
                found.append(states[-1])
    return Reach(ways, None)


def broken_ban(entries, state):
    """The number of the first ban that's broken in a state; None if none is."""
    for number, entry in enumerate(entries):
        if entry.thing is None and holds(entry.condition, state):
            return number
    return None


def judge(house, state):
    """Judges a house from a state."""
    passes = Passes(house.entries)
    states = trail(passes, state)
    if states is None:
        return Verdict(ENDLESS, None, (), None)
    reach = reach_from(house.things, passes, states[-1])
    if reach.endless is not None:
        return Verdict(ENDLESS, None, reach.endless, None)
    for reached, way in reach.ways.items():
        ban = broken_ban(house.entries, reached)
        if ban is not None:
            return Verdict(BROKEN, ban, way, None)
    return Verdict(FINE, None, (), states[-1])
