"""Changes of the entries of the house that runs."""

from houserulesyard.judging import judge
from houserulesyard.parts import House
from houserulesyard.reading import MOST_ENTRIES, entry_of
from houserulesyard.refusals import BAD_WORDS, FULL, NO_SUCH, THERE_IS_NONE, TOO_MUCH
from houserulesyard.running import settle_in
from houserulesyard.signs import words_of
from houserulesyard.telling import tell_verdict

MOST_CHANGES = 20


class Wanted:
    """A change that's wanted: the entries it would leave, and what's answered where it's made.

    The refusal is the number by which it's refused before it's judged, else 0.
    """

    def __init__(self, refusal, entries, answer):
        self.refusal = refusal
        self.entries = entries
        self.answer = answer


def refused(refusal):
    """A change that's refused before it's judged."""
    return Wanted(refusal, None, None)


def inserted(entries, number, entry):
    """These entries, with one more that has this number."""
    return entries[:number] + [entry] + entries[number:]


def without(entries, number):
    """These entries, but the one that has this number."""
    return entries[:number] + entries[number + 1:]


def addition(house, number, line):
    """The change that the calls add and mayadd want."""
    entries = house.entries
    if number > len(entries):
        return refused(TOO_MUCH)
    entry = entry_of(words_of(line), house.things)
    if entry is None:
        return refused(BAD_WORDS)
    if len(entries) == MOST_ENTRIES:
        return refused(FULL)
    return Wanted(0, inserted(entries, number, entry), len(entries) + 1)


def removal(house, number):
    """The change that the calls drop and maydrop want."""
    entries = house.entries
    if number >= len(entries):
        return refused(NO_SUCH)
    return Wanted(0, without(entries, number), len(entries) - 1)


def relocation(house, number, place):
    """The change that the calls move and maymove want."""
    entries = house.entries
    if number >= len(entries) or place >= len(entries):
        return refused(NO_SUCH)
    return Wanted(0, inserted(without(entries, number), place, entries[number]), place)


def take_entries(running, entries):
    """A change of entries: 0 where it's made, else the number that refuses it."""
    return settle_in(running, House(running.house.things, entries), running.state)


def make(running, wanted):
    """The calls add, drop and move."""
    if wanted.refusal < 0:
        return [wanted.refusal]
    before = running.house.entries
    refusal = take_entries(running, wanted.entries)
    if refusal < 0:
        return [refusal]
    running.changes = (running.changes + [before])[-MOST_CHANGES:]
    running.changes_back = []
    return [wanted.answer]


def may_make(running, wanted):
    """The calls mayadd, maydrop and maymove."""
    if wanted.refusal < 0:
        return [wanted.refusal]
    return tell_verdict(judge(House(running.house.things, wanted.entries), running.state))


def go_over(running, source, goal):
    """A change to the last entries of the source: those that were there go to the goal."""
    if len(source) == 0:
        return [THERE_IS_NONE]
    there = running.house.entries
    refusal = take_entries(running, source[-1])
    if refusal < 0:
        return [refusal]
    source.pop()
    goal.append(there)
    return [len(source)]


def unedit(running):
    """The call unedit."""
    return go_over(running, running.changes, running.changes_back)


def reedit(running):
    """The call reedit."""
    return go_over(running, running.changes_back, running.changes)
