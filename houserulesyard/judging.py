"""How a house settles, what can come to be, and how it is judged.

A state is a tuple of values, one for each thing; an event is a tuple of a thing and a value; a way is a
tuple of events.
"""

from houserulesyard.conditions import holds

FINE = 0
ENDLESS = 1
BROKEN = 2


class Passes:
    """Which rules decide in each state, by some entries, and what a pass makes of it."""

    def __init__(self, entries):
        self.entries = entries
        # Many ways come by the same states: each is worked out once, and kept.
        self.deciding = {}
        self.following = {}

    def rules_in(self, state):
        """For each thing the number of the rule that decides it in a state; None where none does."""
        if state not in self.deciding:
            self.deciding[state] = [deciding_rule(self.entries, thing, state) for thing in range(len(state))]
        return self.deciding[state]

    def after(self, state):
        """The state behind a pass."""
        if state not in self.following:
            self.following[state] = after_pass(self.entries, self.rules_in(state), state)
        return self.following[state]


class Reach:
    """What can come to be: the first shortest way to each state, in the order of these ways.

    Where some way goes on for ever, endless is the first shortest one, and the ways are not all told.
    """

    def __init__(self, ways, endless):
        self.ways = ways
        self.endless = endless


class Verdict:
    """How a house is judged: where it settles if it's fine, else the way that tells what's wrong."""

    def __init__(self, outcome, ban, way, settled):
        self.outcome = outcome
        self.ban = ban
        self.way = way
        self.settled = settled


def deciding_rule(entries, thing, state):
    """The number of the rule that decides a thing in a state; None if none does."""
    for number, entry in enumerate(entries):
        if entry.thing == thing and holds(entry.condition, state):
            return number
    return None


def after_pass(entries, rules, state):
    """The state behind a pass over a state in which these rules decide its things."""
    values = []
    for rule, value in zip(rules, state):
        values.append(value if rule is None else entries[rule].value)
    return tuple(values)


def trail(passes, state):
    """The states that passes go through, from this one to the settled one; None if they go on for ever."""
    gone = {}
    while state not in gone:
        gone[state] = True
        following = passes.after(state)
        if following == state:
            return list(gone)
        state = following
    return None


def with_value(state, thing, value):
    """A state, but that a thing has this value."""
    return state[:thing] + (value,) + state[thing + 1:]


def events_of(things):
    """All events that can happen to these things, the lesser first."""
    events = []
    for number, thing in enumerate(things):
        for value in range(thing.top + 1):
            events.append((number, value))
    return events


def reach_from(things, passes, start):
    """What can come to be from a state that's settled."""
    # First come, first gone on from, and by the lesser event first: so the first way found to a state is
    # its first shortest one.
    events = events_of(things)
    ways = {start: ()}
    found = [start]
    place = 0
    while place < len(found):
        state = found[place]
        place += 1
        for event in events:
            way = ways[state] + (event,)
            states = trail(passes, with_value(state, event[0], event[1]))
            if states is None:
                return Reach(ways, way)
            if states[-1] not in ways:
                ways[states[-1]] = way
                found.append(states[-1])
    return Reach(ways, None)


def broken_ban(entries, state):
    """The number of the first ban that's broken in a state; None if none is."""
    for number, entry in enumerate(entries):
        if entry.thing is None and holds(entry.condition, state):
            return number
    return None


def judge(house, state):
    """Judges a house from a state."""
    passes = Passes(house.entries)
    states = trail(passes, state)
    if states is None:
        return Verdict(ENDLESS, None, (), None)
    reach = reach_from(house.things, passes, states[-1])
    if reach.endless is not None:
        return Verdict(ENDLESS, None, reach.endless, None)
    for reached, way in reach.ways.items():
        ban = broken_ban(house.entries, reached)
        if ban is not None:
            return Verdict(BROKEN, ban, way, None)
    return Verdict(FINE, None, (), states[-1])
