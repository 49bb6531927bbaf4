"""A second program, written apart from the package and in another manner, that answers the same calls.

It is slow and free in its means: texts by patterns, conditions by recursion, first shortest ways as the least
of all ways of a length, events taken back by going all of them again from the first but the last.
"""

import itertools
import re

KEPT = {"in", "out", "rule", "never", "and", "or", "not"}


class Nothing(Exception):
    """A line that says nothing."""


class Refused(Exception):
    """A call that is refused."""


def need(truth):
    if not truth:
        raise Nothing


def find_thing(things, name):
    found = [k for k, thing in enumerate(things) if thing[1] == name]
    need(found)
    return found[0]


def read_compare(words, things):
    name, sign, digit = words[0], words[1], words[2]
    k = find_thing(things, name)
    need(sign in {"=", "<", ">"} and re.fullmatch("[0-9]", digit) and int(digit) <= things[k][2])
    return (sign, k, int(digit))


def read_condition(words, things):
    """A condition at the words' beginning, and the words behind it."""
    need(words)
    if words[0] == "not":
        inner, rest = read_condition(words[1:], things)
        return ("not", inner), rest
    if words[0] in {"and", "or"}:
        one, rest = read_condition(words[1:], things)
        other, rest = read_condition(rest, things)
        return (words[0], one, other), rest
    need(len(words) >= 3)
    return read_compare(words, things), words[3:]


def true_in(condition, state):
    kind = condition[0]
    if kind == "not":
        return not true_in(condition[1], state)
    if kind == "and":
        return true_in(condition[1], state) and true_in(condition[2], state)
    if kind == "or":
        return true_in(condition[1], state) or true_in(condition[2], state)
    value = state[condition[1]]
    return {"=": value == condition[2], "<": value < condition[2], ">": value > condition[2]}[kind]


def read_line(row, things):
    """("thing", kind, name, top), or ("rule", text, condition, thing, value), or ("never", text, condition)."""
    text = bytes(row).decode("latin-1")
    need(re.fullmatch("[ -~]{1,100}", text))
    words = [word for word in text.split(" ") if word]
    need(words)
    if words[0] in {"in", "out"}:
        need(len(words) == 3 and re.fullmatch("[1-3]", words[2]) and re.fullmatch("[a-z]{1,8}", words[1]))
        need(words[1] not in KEPT and words[1] not in [thing[1] for thing in things])
        return ("thing", words[0], words[1], int(words[2]))
    need(words[0] in {"rule", "never"})
    condition, rest = read_condition(words[1:], things)
    if words[0] == "never":
        need(not rest)
        return ("never", " ".join(words), condition)
    need(len(rest) == 4 and rest[0] == "->" and rest[2] == "=")
    setting = read_compare(rest[1:], things)
    need(things[setting[1]][0] == "out")
    return ("rule", " ".join(words), condition, setting[1], setting[2])


def read_house(row):
    if len(row) > 1200:
        raise Refused(-22)
    lines = bytes(row).split(b"\n")
    if not lines[-1]:
        lines.pop()
    things, entries = [], []
    for k, line in enumerate(lines, 1):
        try:
            said = read_line(line, things)
            if said[0] == "thing":
                need(len(things) < 6)
                things.append(said[1:])
            else:
                need(len(entries) < 16)
                entries.append(said)
        except Nothing:
            raise Refused(-1000 - k) from None
    size = 1
    for thing in things:
        size *= thing[2] + 1
    if not things or size > 64:
        raise Refused(-28)
    return things, entries


def one_pass(entries, state):
    new = list(state)
    done = set()
    for entry in entries:
        if entry[0] == "rule" and entry[3] not in done and true_in(entry[2], state):
            done.add(entry[3])
            new[entry[3]] = entry[4]
    return tuple(new)


def settle(entries, state):
    """How many passes changed something, and the state; None if it goes on for ever."""
    # There are 64 states at most: what still changes behind so many passes has come to one again.
    for passes in range(66):
        new = one_pass(entries, state)
        if new == state:
            return passes, state
        state = new
    return None


def happened(entries, state, event):
    new = list(state)
    new[event[0]] = event[1]
    return settle(entries, tuple(new))


def judge(things, entries, state):
    """(0, state), (1, way) or (2, ban, way)."""
    start = settle(entries, state)
    if start is None:
        return (1, ())
    events = [(k, v) for k, thing in enumerate(things) for v in range(thing[2] + 1)]
    level = {start[1]: ()}
    seen = set(level)
    broken = None
    while level:
        bad = [(way, at) for at, way in level.items() if any(map(lambda e: e[0] == "never" and true_in(e[2], at),
                                                                entries))]
        if bad and broken is None:
            broken = min(bad)
        endless, grown = [], {}
        for (at, way), event in itertools.product(level.items(), events):
            result = happened(entries, at, event)
            if result is None:
                endless.append(way + (event,))
            elif result[1] not in seen:
                grown.setdefault(result[1], []).append(way + (event,))
        if endless:
            return (1, min(endless))
        level = {at: min(ways) for at, ways in grown.items()}
        seen.update(level)
    if broken:
        bans = [k for k, e in enumerate(entries) if e[0] == "never" and true_in(e[2], broken[1])]
        return (2, bans[0], broken[0])
    return (0, start[1])


def reachable(things, entries, state):
    """For each state that can come to be how many events its first shortest way has, and that way."""
    events = [(k, v) for k, thing in enumerate(things) for v in range(thing[2] + 1)]
    best = {state: (0, ())}
    while True:
        better = dict(best)
        for (at, (count, way)), event in itertools.product(best.items(), events):
            to = happened(entries, at, event)[1]
            better[to] = min(better.get(to, (99, ())), (count + 1, way + (event,)))
        if better == best:
            return best
        best = better


def deciders(entries, state):
    """The rule that decides, for each thing that one does."""
    found = {}
    for k, entry in reversed(list(enumerate(entries))):
        if entry[0] == "rule" and true_in(entry[2], state):
            found[entry[3]] = k
    return found


def passed_through(entries, state):
    while one_pass(entries, state) != state:
        yield state
        state = one_pass(entries, state)
    yield state


def flat(way):
    return [number for event in way for number in event]


def verdict_told(verdict):
    return [verdict[0]] + list(verdict[1:-1]) + (flat(verdict[-1]) if verdict[0] else [])


class Oracle:
    def __init__(self):
        self.house = None

    def answer(self, call):
        if self.house is None and call[0] not in {"begin", "load", "mayload", "state"}:
            return [-61]
        try:
            return getattr(self, "do_" + call[0])(*call[1:])
        except Refused as refusal:
            return [refusal.args[0]]

    def do_begin(self):
        self.house = None
        return [0]

    def do_load(self, text):
        things, entries = read_house(text)
        verdict = judge(things, entries, (0,) * len(things))
        self.fine(verdict)
        self.house, self.past, self.future = (things, entries), [], []
        self.start_anew(verdict[1])
        return [len(things)]

    def start_anew(self, state):
        """In this state, with no events: first is the state before the oldest event that's kept."""
        self.state, self.first, self.done, self.undone = state, state, [], []

    def do_mayload(self, text):
        things, entries = read_house(text)
        return verdict_told(judge(things, entries, (0,) * len(things)))

    def do_tell(self):
        text = "".join("%s %s %d\n" % thing for thing in self.house[0])
        text += "".join(entry[1] + "\n" for entry in self.house[1])
        return [len(text)] + list(text.encode())

    @staticmethod
    def fine(verdict):
        if verdict[0]:
            raise Refused({1: -41, 2: -42}[verdict[0]])

    def judged(self, entries):
        return judge(self.house[0], entries, self.state)

    def take(self, entries):
        verdict = self.judged(entries)
        self.fine(verdict)
        self.house = (self.house[0], entries)
        self.start_anew(verdict[1])

    def change(self, entries):
        before = self.house[1]
        self.take(entries)
        self.past.append(before)
        del self.past[:-20]
        self.future.clear()

    def added(self, number, line):
        entries = list(self.house[1])
        if number > len(entries):
            raise Refused(-22)
        try:
            said = read_line(line, self.house[0])
            need(said[0] != "thing")
        except Nothing:
            raise Refused(-71) from None
        if len(entries) == 16:
            raise Refused(-12)
        entries.insert(number, said)
        return entries

    def dropped(self, number):
        entries = list(self.house[1])
        if number >= len(entries):
            raise Refused(-2)
        entries.pop(number)
        return entries

    def moved(self, number, place):
        entries = self.dropped(number)
        if place > len(entries):
            raise Refused(-2)
        entries.insert(place, self.house[1][number])
        return entries

    def do_add(self, number, line):
        self.change(self.added(number, line))
        return [len(self.house[1])]

    def do_mayadd(self, number, line):
        return verdict_told(self.judged(self.added(number, line)))

    def do_drop(self, number):
        self.change(self.dropped(number))
        return [len(self.house[1])]

    def do_maydrop(self, number):
        return verdict_told(self.judged(self.dropped(number)))

    def do_move(self, number, place):
        self.change(self.moved(number, place))
        return [place]

    def do_maymove(self, number, place):
        return verdict_told(self.judged(self.moved(number, place)))

    def do_unedit(self):
        if not self.past:
            raise Refused(-6)
        now = self.house[1]
        self.take(self.past[-1])
        self.past.pop()
        self.future.append(now)
        return [len(self.past)]

    def do_reedit(self):
        if not self.future:
            raise Refused(-6)
        now = self.house[1]
        self.take(self.future[-1])
        self.future.pop()
        self.past.append(now)
        return [len(self.future)]

    def event(self, thing, value):
        if thing >= len(self.house[0]):
            raise Refused(-2)
        if value > self.house[0][thing][2]:
            raise Refused(-34)
        return happened(self.house[1], self.state, (thing, value))

    def do_set(self, thing, value):
        passes, self.state = self.event(thing, value)
        self.done.append((thing, value))
        self.undone = []
        if len(self.done) > 50:
            self.first = happened(self.house[1], self.first, self.done.pop(0))[1]
        return [passes]

    def do_look(self, thing, value):
        passes, state = self.event(thing, value)
        return [passes] + list(state)

    @staticmethod
    def none_if_not(many):
        if not many:
            raise Refused(-6)

    @staticmethod
    def there(many, number):
        if number not in range(len(many)):
            raise Refused(-2)
        return many[number]

    def do_back(self):
        self.none_if_not(self.done)
        self.undone.append(self.done.pop())
        self.state = self.first
        for event in self.done:
            self.state = happened(self.house[1], self.state, event)[1]
        return [len(self.done)]

    def do_again(self):
        self.none_if_not(self.undone)
        event = self.undone.pop()
        self.done.append(event)
        self.state = happened(self.house[1], self.state, event)[1]
        return [len(self.undone)]

    def do_log(self, k):
        return list(self.there(self.done[::-1], k))

    def do_value(self, thing):
        return [self.there(self.state, thing)]

    def do_values(self):
        return [len(self.state), *self.state]

    def do_why(self, thing):
        self.there(self.state, thing)
        found = deciders(self.house[1], self.state)
        self.none_if_not(thing in found)
        return [found[thing]]

    def do_line(self, number):
        text = self.there(self.house[1], number)[1]
        return [len(text)] + list(text.encode())

    def do_name(self, thing):
        text = self.there(self.house[0], thing)[1]
        return [len(text)] + list(text.encode())

    def do_find(self, name):
        found = {thing[1].encode(): [k, thing[2]] for k, thing in enumerate(self.house[0])}
        return found.get(bytes(name), [-2])

    def do_could(self, row):
        text = bytes(row).decode("latin-1")
        try:
            need(re.fullmatch("[ -~]{1,100}", text))
            condition, rest = read_condition([word for word in text.split(" ") if word], self.house[0])
            need(not rest)
        except Nothing:
            raise Refused(-71) from None
        ways = [way for state, way in reachable(*self.house, self.state).items() if true_in(condition, state)]
        return [min(ways)[0]] + flat(min(ways)[1]) if ways else [-33]

    def do_count(self):
        return [len(reachable(*self.house, self.state))]

    def do_idle(self):
        things, entries = self.house
        idle = {k for k, entry in enumerate(entries) if entry[0] == "rule"}
        for state in reachable(things, entries, self.state):
            idle -= set(deciders(entries, state).values())
            for k, thing in enumerate(things):
                for v in range(thing[2] + 1):
                    for between in passed_through(entries, state[:k] + (v,) + state[k + 1:]):
                        idle -= set(deciders(entries, between).values())
        return [len(idle)] + sorted(idle)

    def do_state(self):
        if self.house is None:
            return [0] * 7
        return [1] + [len(many) for many in (*self.house, self.done, self.undone, self.past, self.future)]
