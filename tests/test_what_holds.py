"""What holds over the whole program, a to h: each asked of many houses, behind calls made by chance."""

import random
import unittest

from tests.oracle import Oracle, happened, read_condition, read_house, settle, true_in
from tests.scripts import condition, script
from tests.talk import ask

REFUSALS = {1: -41, 2: -42}
ASKING = ("mayload", "tell", "mayadd", "maydrop", "maymove", "look", "value", "values", "why", "line", "name", "find",
          "could", "count", "idle", "log", "state")


class Here:
    """A house that runs, behind some calls: its things and entries as it tells them, and its values."""

    def __init__(self, calls):
        self.calls = calls
        told, values = ask(*calls, ("tell",), ("values",))[-2:]
        self.things, self.entries = read_house(told[1:])
        self.values = tuple(values[1:])
        self.tops = [thing[2] for thing in self.things]
        self.events = [(k, v) for k, top in enumerate(self.tops) for v in range(top + 1)]

    def ask(self, *more):
        return ask(*self.calls, *more)[len(self.calls):]

    def bans(self):
        return [entry for entry in self.entries if entry[0] == "never"]

    def read(self, text):
        found, rest = read_condition(text.split(), self.things)
        assert not rest
        return found

    def walk(self, chance, length):
        return [("set",) + chance.choice(self.events) for _ in range(length)]


def houses(seeds, length):
    """Houses that run, each behind a part of a list of calls, with what draws on."""
    for seed in seeds:
        chance = random.Random(seed)
        calls, expected = script(chance, length)
        calls = calls[:chance.randint(3, length)]
        if ask(*calls, ("state",))[-1][0] == 1:
            yield seed, chance, Here(calls)


def way_of(numbers):
    return list(zip(numbers[::2], numbers[1::2]))


def sets(way):
    return [("set",) + event for event in way]


def each(calls, *behind):
    """Each of these calls with these others behind it."""
    return [made for call in calls for made in (call,) + behind]


class KeepsItsRules(unittest.TestCase):
    """a and b."""

    def test_it_is_settled_and_no_ban_is_broken_whatever_is_set(self):
        tried = 0
        for seed, chance, here in houses(range(2000, 2120), 40):
            given = here.ask(*each(here.walk(chance, 60), ("values",)))
            for state in [here.values] + [tuple(values[1:]) for values in given[1::2]]:
                self.assertEqual(settle(here.entries, state), (0, state), seed)
                for ban in here.bans():
                    self.assertFalse(true_in(ban[2], state), seed)
                    tried += 1
        self.assertGreater(tried, 1000)

    def test_no_ban_could_be_broken(self):
        for seed, _, here in houses(range(2000, 2120), 40):
            for ban in here.bans():
                self.assertEqual(here.ask(("could", ban[1][len("never "):])), [[-33]], seed)

    def test_whatever_a_thing_may_be_set_to_it_can_be_set_to(self):
        for seed, chance, here in houses(range(2200, 2260), 40):
            walk = here.walk(chance, 5)
            for k in range(len(walk) + 1):
                for event in here.events:
                    looked, passes, values = here.ask(*walk[:k], ("look",) + event, ("set",) + event, ("values",))[k:]
                    self.assertGreaterEqual(passes[0], 0, seed)
                    self.assertEqual(looked, passes + values[1:], seed)


class Changes(unittest.TestCase):
    """c."""

    def scripts(self):
        for seed in range(2300, 2400):
            yield (seed,) + script(random.Random(seed), 50)

    def test_a_change_is_refused_just_if_it_is_told_that_it_may_not_be(self):
        tried = {}
        for seed, calls, expected in self.scripts():
            for k, call in enumerate(calls):
                if call[0] in ("load", "add", "drop", "move"):
                    asked, made = ask(*calls[:k], ("may" + call[0],) + call[1:], call)[-2:]
                    refusal = REFUSALS.get(asked[0], min(asked[0], 0))
                    self.assertEqual(min(made[0], 0), refusal, (seed, k, call))
                    tried[refusal] = tried.get(refusal, 0) + 1
        self.assertLessEqual({0, -2, -41, -42, -71}, set(tried))

    def wanted(self, calls, call):
        """The entries that a call asks about, and the state from which they are judged."""
        oracle = Oracle()
        for before in calls:
            oracle.answer(before)
        if call[0] == "mayload":
            things, entries = read_house(call[1])
            return entries, (0,) * len(things)
        entries = {"mayadd": oracle.added, "maydrop": oracle.dropped, "maymove": oracle.moved}[call[0]]
        return entries(*call[1:]), oracle.state

    def follow(self, entries, state, way):
        """The state that a way leads to; None if it goes on for ever behind its last event."""
        at = settle(entries, state)
        for event in way:
            self.assertIsNotNone(at)
            at = happened(entries, at[1], event)
        return at and at[1]

    def test_the_way_that_is_told_leads_there(self):
        tried = {1: 0, 2: 0}
        for seed, calls, _ in self.scripts():
            for k, call in enumerate(calls):
                if call[0] not in ("load", "add", "drop", "move"):
                    continue
                call = ("may" + call[0],) + call[1:]
                told = ask(*calls[:k], call)[-1]
                if told[0] not in (1, 2):
                    continue
                entries, state = self.wanted(calls[:k], call)
                at = self.follow(entries, state, way_of(told[told[0]:]))
                if told[0] == 1:
                    self.assertIsNone(at, (seed, k, call))
                else:
                    broken = [n for n, entry in enumerate(entries) if entry[0] == "never" and true_in(entry[2], at)]
                    self.assertEqual(broken[0], told[1], (seed, k, call))
                tried[told[0]] += 1
        self.assertGreater(min(tried.values()), 8)

    def test_a_way_to_a_broken_ban_can_be_gone_while_the_ban_is_not_there(self):
        tried = 0
        for seed, chance, here in houses(range(2500, 2600), 40):
            ban = ("mayadd", 0, "never " + condition(chance, here.tops, 2))
            told = here.ask(ban)[0]
            if told[0] == 2:
                self.assertEqual(here.ask(*sets(way_of(told[2:])), ban)[-1], [2, 0], seed)
                tried += 1
        self.assertGreater(tried, 30)


class TakenBack(unittest.TestCase):
    """d."""

    def test_events_taken_back_and_done_again_are_just_as_they_were(self):
        for seed, chance, here in houses(range(2600, 2680), 20):
            # By the one or by the other all events before are forgotten.
            here = Here(here.calls + [("move", 0, 0), ("load", bytes(here.ask(("tell",))[0][1:]))])
            walk = here.walk(chance, chance.choice((1, 3, 50, 51, 60)))
            kept = min(len(walk), 50)
            backs, agains = [("back",)] * kept, [("again",)] * kept
            left = [[k] for k in range(kept - 1, -1, -1)]
            forth = here.ask(("values",), *each(walk, ("values",), ("log", 0)))
            values = [forth[0]] + forth[2::3]
            back = here.ask(*walk, *each(backs, ("values",)), ("back",))[len(walk):]
            self.assertEqual((back[:-1:2], back[-1]), (left, [-6]), seed)
            self.assertEqual(back[1::2], values[-2:-2 - kept:-1], seed)
            again = here.ask(*walk, *backs, *each(agains, ("values",), ("log", 0)), ("again",))[len(walk) + kept:]
            self.assertEqual((again[:-1:3], again[-1]), (left, [-6]), seed)
            self.assertEqual(again[1::3], values[-kept:], seed)
            self.assertEqual(again[2::3], forth[3::3][-kept:], seed)
            told = (("state",), ("tell",), ("count",), ("idle",), ("log", kept - 1))
            self.assertEqual(here.ask(*walk, *backs, *agains, *told)[-5:], here.ask(*walk, *told)[-5:], seed)

    def test_a_change_taken_back_the_entries_are_as_before(self):
        tried = 0
        for seed in range(2700, 2760):
            calls, expected = script(random.Random(seed), 50)
            for k, call in enumerate(calls):
                if call[0] in ("add", "drop", "move") and expected[k][0] >= 0:
                    before, _, behind, taken, there, made, again = ask(
                        *calls[:k], ("tell",), call, ("tell",), ("unedit",), ("tell",), ("reedit",), ("tell",))[k:]
                    if taken[0] >= 0:
                        self.assertEqual(there, before, (seed, k, call))
                        tried += 1
                        if made[0] >= 0:
                            self.assertEqual(again, behind, (seed, k, call))
        self.assertGreater(tried, 100)


class Decided(unittest.TestCase):
    """e."""

    def test_a_thing_that_a_rule_decides_is_as_that_rule_says(self):
        decided = 0
        for seed, chance, here in houses(range(2800, 2900), 40):
            whys = [("why", k) for k in range(len(here.things))]
            given = here.ask(*each(here.walk(chance, 20), ("values",), *whys))
            size = 2 + len(whys)
            for start in range(0, len(given), size):
                values = given[start + 1][1:]
                for thing, (rule,) in enumerate(given[start + 2:start + size]):
                    holding = [k for k, entry in enumerate(here.entries)
                               if entry[0] == "rule" and entry[3] == thing and true_in(entry[2], values)]
                    self.assertEqual(rule, (holding + [-6])[0], seed)
                    if rule >= 0:
                        self.assertEqual(values[thing], here.entries[rule][4], seed)
                        decided += 1
        self.assertGreater(decided, 500)


class Idle(unittest.TestCase):
    """f."""

    def seen(self, chance, here):
        """Calls that tell all that may be told of a house, and much of what it may come to."""
        walk = each(here.walk(chance, 30), ("values",), ("count",))
        wishes = [("could", condition(chance, here.tops, 2)) for _ in range(10)]
        looks = [("look",) + event for event in here.events]
        return [("values",), ("count",)] + wishes + looks + walk + wishes + looks

    def test_an_idle_rule_can_be_dropped_and_everything_is_as_it_was(self):
        dropped = 0
        for seed, chance, here in houses(range(2900, 3020), 40):
            idle = here.ask(("idle",))[0]
            self.assertEqual(idle[0], len(idle) - 1)
            seen = self.seen(chance, here)
            for rule in idle[1:]:
                left = [k for k in range(len(here.entries)) if k != rule]
                given = here.ask(("maydrop", rule), ("drop", rule), ("idle",), *seen)
                self.assertEqual(given[:2], [[0], [len(left)]], seed)
                self.assertEqual([left[k] for k in given[2][1:]], [k for k in idle[1:] if k != rule], seed)
                self.assertEqual(given[3:], here.ask(*seen), seed)
                dropped += 1
        self.assertGreater(dropped, 40)

    def test_one_that_decides_somewhere_behind_some_way_is_never_idle(self):
        for seed, chance, here in houses(range(3020, 3100), 40):
            idle = here.ask(("idle",))[0][1:]
            given = here.ask(*each(here.walk(chance, 30), *[("why", k) for k in range(len(here.things))]))
            size = 1 + len(here.things)
            whys = [answer[0] for k, answer in enumerate(given) if k % size]
            self.assertFalse(set(whys) & set(idle), seed)


class Coming(unittest.TestCase):
    """g."""

    def test_what_is_told_to_come_does_by_its_way_and_what_is_not_never_does(self):
        comes, never = 0, 0
        for seed, chance, here in houses(range(3100, 3220), 40):
            text = condition(chance, here.tops, 3)
            if len(text) > 100:
                continue
            wish = here.read(text)
            told = here.ask(("could", text))[0]
            walk = each(here.walk(chance, 60), ("values",))
            if told == [-33]:
                for values in [here.values] + [values[1:] for values in here.ask(*walk)[1::2]]:
                    self.assertFalse(true_in(wish, values), seed)
                never += 1
            else:
                way = way_of(told[1:])
                self.assertEqual(told[0], len(way), seed)
                given = here.ask(*each(sets(way), ("values",)), ("could", text))
                self.assertEqual(given[-1], [0], seed)
                states = [here.values] + [values[1:] for values in given[1:-1:2]]
                self.assertEqual([true_in(wish, state) for state in states], [False] * len(way) + [True], seed)
                comes += 1
        self.assertGreater(min(comes, never), 15)

    def test_so_many_states_could_come_as_are_counted(self):
        for seed, chance, here in houses(range(3220, 3260), 40):
            states = [()]
            for top in here.tops:
                states = [state + (v,) for state in states for v in range(top + 1)]
            texts = ["and " * (len(state) - 1) + " ".join(
                "%s = %d" % (thing[1], v) for thing, v in zip(here.things, state)) for state in states]
            told = here.ask(("count",), *[("could", text) for text in texts])
            come = [state for state, answer in zip(states, told[1:]) if answer != [-33]]
            self.assertEqual(told[0], [len(come)], seed)
            self.assertIn(here.values, come)
            walked = here.ask(*each(here.walk(chance, 100), ("values",)))[1::2]
            self.assertLessEqual({tuple(values[1:]) for values in walked}, set(come), seed)


class NothingChanges(unittest.TestCase):
    """h."""

    seen = (("state",), ("values",), ("tell",), ("log", 0), ("log", 1))

    def test_what_is_refused_and_what_only_asks(self):
        quiet = {}
        for seed in range(3300, 3400):
            calls, expected = script(random.Random(seed), 40)
            given = ask(*self.seen, *each(calls, *self.seen))
            size = 1 + len(self.seen)
            for k, call in enumerate(calls):
                before, answer, behind = given[size * k:][:5], given[size * k + 5], given[size * k + 6:][:5]
                # What was asked in between has changed nothing either.
                self.assertEqual(answer, expected[k], (seed, k, call))
                if call[0] in ASKING or answer[0] < 0:
                    self.assertEqual(behind, before, (seed, k, call))
                    quiet[call[0], min(answer[0], 0)] = True
        for made in (("add", -71), ("add", -42), ("add", -41), ("drop", -2), ("move", -2), ("load", -42), ("set", -34),
                     ("set", -2), ("back", -6), ("again", -6), ("unedit", -6), ("reedit", -6)):
            self.assertIn(made, quiet)
        self.assertEqual({name for name, _ in quiet if name in ASKING}, set(ASKING))

    def test_each_question_alone_and_twice(self):
        for seed, chance, here in houses(range(3400, 3440), 40):
            ways = [("set",) + chance.choice(here.events) for _ in range(3)]
            behind = ways + [("back",), ("again",), ("unedit",), ("reedit",), ("tell",), ("values",), ("state",)]
            plain = here.ask(*behind)
            for question in (("could", condition(chance, here.tops, 2)), ("count",), ("idle",), ("why", 0), ("log", 0),
                             ("find", "a"), ("line", 0), ("name", 0), ("value", 0), ("could", "x")):
                given = here.ask(question, question, *behind)
                self.assertEqual(given[0], given[1], (seed, question))
                self.assertEqual(given[2:], plain, (seed, question))


if __name__ == "__main__":
    unittest.main()
