"""What can come to be from now on."""

from houserulesyard.conditions import condition_of, holds
from houserulesyard.judging import Passes, events_of, reach_from, trail, with_value
from houserulesyard.refusals import BAD_WORDS, NEVER_COMES
from houserulesyard.signs import words_of
from houserulesyard.telling import counted, tell_way


def ways_now(running, passes):
    """The first shortest way to each state that can come to be from now on, in the order of these ways."""
    return reach_from(running.house.things, passes, running.state).ways


def could_come(running, row):
    """The call could."""
    condition = condition_of(words_of(row), running.house.things)
    if condition is None:
        return [BAD_WORDS]
    for state, way in ways_now(running, Passes(running.house.entries)).items():
        if holds(condition, state):
            return [len(way)] + tell_way(way)
    return [NEVER_COMES]


def count_coming(running):
    """The call count."""
    return [len(ways_now(running, Passes(running.house.entries)))]


def gone_through(running, passes):
    """All states that can come to be, and all that passes go through behind an event from one."""
    # An event that sets what is so already goes through the state itself alone: none needs to be put in apart.
    events = events_of(running.house.things)
    gone = {}
    for state in ways_now(running, passes):
        for event in events:
            for between in trail(passes, with_value(state, event[0], event[1])):
                gone[between] = True
    return list(gone)


def rules_at_work(running):
    """The numbers of the rules that decide a thing in one of the states that are gone through."""
    passes = Passes(running.house.entries)
    working = {}
    for state in gone_through(running, passes):
        for rule in passes.rules_in(state):
            if rule is not None:
                working[rule] = True
    return list(working)


def idle_rules(running):
    """The call idle."""
    working = rules_at_work(running)
    idle = []
    for number, entry in enumerate(running.house.entries):
        # A ban sets no thing, so it decides none, and is no idle rule for that.
        if entry.thing is not None and number not in working:
            idle.append(number)
    return counted(idle)
