"""The house that runs: begun, loaded, and what happens to its things, is taken back and happens again."""

from houserulesyard.judging import BROKEN, ENDLESS, Passes, judge, trail, with_value
from houserulesyard.reading import read_text
from houserulesyard.refusals import BREAKS_A_BAN, GOES_ON_FOR_EVER, NO_SUCH, NO_SUCH_VALUE, THERE_IS_NONE
from houserulesyard.telling import tell_verdict

MOST_EVENTS = 50


class Event:
    """An event that happened, with the state before it."""

    def __init__(self, thing, value, before):
        self.thing = thing
        self.value = value
        self.before = before


class Running:
    """A house (None: there's none), its state, and what can be taken back or done again, the last at the end.

    Of a change that can be taken back the entries before it are kept, of one taken back those behind it.
    """

    def __init__(self):
        self.house = None
        self.state = ()
        self.events = []
        self.events_back = []
        self.changes = []
        self.changes_back = []


def forget_events(running):
    """Forgets all events, those taken back too."""
    running.events = []
    running.events_back = []


def forget_changes(running):
    """Forgets all changes, those taken back too."""
    running.changes = []
    running.changes_back = []


def verdict_refusal(verdict):
    """The number that refuses a house that's judged so; 0 if it's fine."""
    if verdict.outcome == ENDLESS:
        return GOES_ON_FOR_EVER
    if verdict.outcome == BROKEN:
        return BREAKS_A_BAN
    return 0


def settle_in(running, house, state):
    """Lets a house run from a state on, where it's fine: 0; else the number that refuses it."""
    verdict = judge(house, state)
    refusal = verdict_refusal(verdict)
    if refusal == 0:
        running.house = house
        running.state = verdict.settled
        forget_events(running)
    return refusal


def begin(running):
    """The call begin."""
    running.house = None
    running.state = ()
    forget_events(running)
    forget_changes(running)
    return [0]


def all_zero(things):
    """The state in which all is 0."""
    return tuple([0 for thing in things])


def load(running, text):
    """The call load."""
    reading = read_text(text)
    if reading.refusal < 0:
        return [reading.refusal]
    refusal = settle_in(running, reading.house, all_zero(reading.house.things))
    if refusal < 0:
        return [refusal]
    forget_changes(running)
    return [len(reading.house.things)]


def mayload(text):
    """The call mayload."""
    reading = read_text(text)
    if reading.refusal < 0:
        return [reading.refusal]
    return tell_verdict(judge(reading.house, all_zero(reading.house.things)))


def event_refusal(things, thing, value):
    """The number that refuses an event; 0 if it can happen."""
    if thing >= len(things):
        return NO_SUCH
    if value > things[thing].top:
        return NO_SUCH_VALUE
    return 0


def event_trail(running, thing, value):
    """The states that an event goes through, from the one in which the value is just set."""
    return trail(Passes(running.house.entries), with_value(running.state, thing, value))


def happen(running, thing, value):
    """Lets an event happen: by how many passes that changed something it settles."""
    states = event_trail(running, thing, value)
    running.events = (running.events + [Event(thing, value, running.state)])[-MOST_EVENTS:]
    running.state = states[-1]
    return len(states) - 1


def set_thing(running, thing, value):
    """The call set."""
    refusal = event_refusal(running.house.things, thing, value)
    if refusal < 0:
        return [refusal]
    running.events_back = []
    return [happen(running, thing, value)]


def look_ahead(running, thing, value):
    """The call look."""
    refusal = event_refusal(running.house.things, thing, value)
    if refusal < 0:
        return [refusal]
    states = event_trail(running, thing, value)
    return [len(states) - 1] + list(states[-1])


def take_back(running):
    """The call back."""
    if len(running.events) == 0:
        return [THERE_IS_NONE]
    event = running.events.pop()
    running.events_back.append(event)
    running.state = event.before
    return [len(running.events)]


def do_again(running):
    """The call again."""
    if len(running.events_back) == 0:
        return [THERE_IS_NONE]
    event = running.events_back.pop()
    # The entries are the same since it happened first: it settles as it did then.
    happen(running, event.thing, event.value)
    return [len(running.events_back)]
