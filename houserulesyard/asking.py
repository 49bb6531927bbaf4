"""What the house that runs is now, why, and what happened to it."""

from houserulesyard.judging import deciding_rule
from houserulesyard.refusals import NO_SUCH, THERE_IS_NONE
from houserulesyard.telling import counted


def value_of(running, thing):
    """The call value."""
    if thing >= len(running.state):
        return [NO_SUCH]
    return [running.state[thing]]


def all_values(running):
    """The call values."""
    return counted(list(running.state))


def why_so(running, thing):
    """The call why."""
    if thing >= len(running.state):
        return [NO_SUCH]
    rule = deciding_rule(running.house.entries, thing, running.state)
    if rule is None:
        return [THERE_IS_NONE]
    return [rule]


def logged(running, number):
    """The call log."""
    if number >= len(running.events):
        return [NO_SUCH]
    event = running.events[-1 - number]
    return [event.thing, event.value]


def sizes(running):
    """The call state."""
    house = running.house
    if house is None:
        return [0, 0, 0, 0, 0, 0, 0]
    past = [len(running.events), len(running.events_back), len(running.changes), len(running.changes_back)]
    return [1, len(house.things), len(house.entries)] + past
