"""Lists of calls made by chance from a seed, always the same ones for the same seed."""

from tests.oracle import Oracle
from tests.talk import as_bytes

LETTERS = "abcdefghijklmnopqrstuvwxyz"
SIZES = ((1,), (2,), (3,), (1, 1), (1, 2), (3, 1), (1, 1, 1), (2, 1, 1), (3, 3), (1, 1, 1, 1), (3, 3, 3),
         (1, 1, 1, 1, 1, 1))
EDITS = ("add", "add", "add", "mayadd", "drop", "maydrop", "move", "maymove", "unedit", "unedit", "reedit")
EVENTS = ("set", "set", "set", "set", "look", "back", "back", "again")
QUESTIONS = ("tell", "value", "values", "why", "line", "name", "find", "could", "could", "count", "idle", "log", "state")
BACK_AND_FORTH = ("back", "back", "again", "unedit", "reedit")
GROUPS = ((EDITS, EVENTS, QUESTIONS), (EDITS, EVENTS, EVENTS, QUESTIONS), (EDITS, EDITS, EVENTS),
          (EVENTS, EVENTS, EVENTS, QUESTIONS), (EDITS, EVENTS, BACK_AND_FORTH))


def condition(chance, tops, depth):
    if depth and chance.random() < 0.5:
        joint = chance.choice(("not", "and", "or", "and"))
        count = 1 if joint == "not" else 2
        return " ".join([joint] + [condition(chance, tops, depth - 1) for _ in range(count)])
    thing = chance.randrange(len(tops))
    return "%s %s %d" % (LETTERS[thing], chance.choice("==<>"), chance.randint(0, tops[thing]))


def entry(chance, kinds, tops):
    outs = [k for k, kind in enumerate(kinds) if kind == "out"]
    if outs and chance.random() < 0.75:
        thing = chance.choice(outs)
        value = chance.randint(0, tops[thing])
        return "rule %s -> %s = %d" % (condition(chance, tops, 2), LETTERS[thing], value)
    return "never " + condition(chance, tops, 3)


def house(chance):
    """The kinds and tops of some things, and a text that tells them and some entries."""
    tops = chance.choice(SIZES)
    kinds = [chance.choice(("in", "out", "out")) for _ in tops]
    parts = ["%s %s %d" % (kinds[k], LETTERS[k], top) for k, top in enumerate(tops)]
    parts += [entry(chance, kinds, tops) for _ in range(chance.randint(0, 5))]
    return kinds, tops, "\n".join(parts)


def spoiled(chance, text):
    """A text with something in it put elsewhere, doubled, lost or altered."""
    row = as_bytes(text)
    for _ in range(chance.randint(1, 2)):
        k = chance.randrange(len(row) + 1)
        if chance.random() < 0.4 and k < len(row):
            row.pop(k)
        else:
            row.insert(k, chance.choice([32, 32, 10, 31, 127, 61, 48, 51, 97, 98, 45, 62, 65, 255]))
    return row


def fine_house(chance):
    """A house that load takes, at last the one without entries."""
    for _ in range(30):
        kinds, tops, text = house(chance)
        if Oracle().answer(("load", as_bytes(text))) == [len(tops)]:
            return kinds, tops, text
    return ["out"], (1,), "out a 1"


def numbered(chance, most):
    """A number up to this one, seldom another."""
    if chance.random() < 0.04:
        return chance.choice((4294967295, most + 1, most + 2))
    return chance.randint(0, max(most, 0))


def call(chance, groups, kinds, tops, count):
    """A call out of these groups, on a house with these things and so many entries."""
    name = chance.choice(chance.choice(groups))
    if name in ("add", "mayadd"):
        line = entry(chance, kinds, tops)
        row = spoiled(chance, line) if chance.random() < 0.1 else as_bytes(line)
        return (name, numbered(chance, count), row)
    if name in ("drop", "maydrop", "line"):
        return (name, numbered(chance, count - 1))
    if name in ("value", "why", "name"):
        return (name, numbered(chance, len(tops) - 1))
    if name == "log":
        return (name, numbered(chance, 5))
    if name == "find":
        return (name, as_bytes(chance.choice(LETTERS[:len(tops) + 1]) + chance.choice(("", "", "", "", " ", "a"))))
    if name == "could":
        row = as_bytes(condition(chance, tops, 3))
        return (name, spoiled(chance, row) if chance.random() < 0.1 else row)
    if name in ("move", "maymove"):
        return (name, numbered(chance, count - 1), numbered(chance, count - 1))
    if name in ("set", "look"):
        thing = numbered(chance, len(tops) - 1)
        top = tops[thing] if thing < len(tops) else 1
        return (name, thing, numbered(chance, top))
    return (name,)


def script(chance, length):
    """A list of calls, most of them on a house that was loaded, and what the oracle answers to each."""
    oracle = Oracle()
    calls = []
    kinds, tops, text = house(chance)
    calls.append((chance.choice(("mayload", "load")), as_bytes(text)))
    calls.append(("mayload", spoiled(chance, text)))
    kinds, tops, text = fine_house(chance)
    calls.append(("load", as_bytes(text)))
    expected = [oracle.answer(made) for made in calls]
    groups = chance.choice(GROUPS)
    while len(calls) < length:
        if oracle.house is None and chance.random() < 0.5:
            calls.append(("load", as_bytes(text)))
        elif chance.random() < 0.005:
            calls.append(("begin",))
        elif chance.random() < 0.02:
            calls.append((chance.choice(("mayload", "load")), spoiled(chance, text)))
        else:
            calls.append(call(chance, groups, kinds, tops, len(oracle.house[1]) if oracle.house else 0))
        expected.append(oracle.answer(calls[-1]))
    return calls, expected
