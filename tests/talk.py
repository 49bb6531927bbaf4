"""Calls by their names, as the list of numbers that answers takes, and its answers, one list for each call."""

from houserulesyard.house import answers

NAMES = (
    "begin", "load", "mayload", "tell", "add", "mayadd", "drop", "maydrop", "move", "maymove",
    "unedit", "reedit", "set", "look", "back", "again", "value", "values", "why", "line", "name", "find", "could",
    "count", "idle", "log", "state",
)
MOST_CALLS = 300
MOST_NUMBERS = 30000
# Those that answer without a house too.
WITHOUT_HOUSE = ("begin", "load", "mayload", "state")


def as_bytes(text):
    """A byte string as a list of bytes, whatever it's written as."""
    if isinstance(text, str):
        return [ord(sign) for sign in text]
    return list(text)


def encoded(calls):
    """The numbers of these calls; what is a text or a list in a call is a row."""
    numbers = []
    for call in calls:
        numbers.append(NAMES.index(call[0]))
        for part in call[1:]:
            if isinstance(part, int):
                numbers.append(part)
            else:
                row = as_bytes(part)
                numbers.append(len(row))
                numbers.extend(row)
    return numbers


def decoded(numbers):
    """The answers in a list of numbers, one list each."""
    parts = []
    place = 0
    while place < len(numbers):
        behind = place + 1 + numbers[place]
        parts.append(numbers[place + 1:behind])
        place = behind
    assert place == len(numbers), numbers
    return parts


def ask(*calls):
    """The answers to these calls, on a new object."""
    numbers = encoded(calls)
    assert len(calls) <= MOST_CALLS and len(numbers) <= MOST_NUMBERS, "more than is ever handed in"
    given = decoded(answers(numbers))
    assert len(given) == len(calls), (calls, given)
    return given


def ask_last(*calls):
    """The answer to the last of these calls, on a new object."""
    return ask(*calls)[-1]


def loaded(*parts):
    """A load of a text of these lines."""
    return ("load", lines(*parts))


def counted(text):
    """So many bytes, then these, as line and name answer them."""
    return [len(text)] + as_bytes(text)


def lines(*parts):
    """A text of these lines."""
    return "".join([part + "\n" for part in parts])


def told(*parts):
    """What tell answers where the house has these lines."""
    return counted(lines(*parts))
