"""Conditions: read from words, asked of a state.

A condition is kept as a list of parts, in the order in which they are written. A part is a tuple of a sign,
the number of a thing and a digit; where the sign is a joining word, the thing and the digit are None.
"""

from houserulesyard.parts import thing_called

# The joining words, and how many conditions stand behind each.
JOINING = {"not": 1, "and": 2, "or": 2}
COMPARING = ("=", "<", ">")
DIGITS = ("0", "1", "2", "3")
COMPARISON_WORDS = 3


def comparison_of(words, things):
    """The part that these words are, if they compare a thing with one of its values; else None."""
    if len(words) != COMPARISON_WORDS or words[1] not in COMPARING:
        return None
    thing = thing_called(words[0], things)
    if thing is None or words[2] not in DIGITS[:things[thing].top + 1]:
        return None
    return (words[1], thing, int(words[2]))


def part_at(words, place, things):
    """The part of a condition that begins at this place of the words; None if none does."""
    if place < len(words) and words[place] in JOINING:
        return (words[place], None, None)
    return comparison_of(words[place:place + COMPARISON_WORDS], things)


def condition_of(words, things):
    """The condition that these words are; None if they aren't just a condition."""
    parts = []
    place = 0
    wanted = 1
    while wanted > 0:
        part = part_at(words, place, things)
        if part is None:
            return None
        parts.append(part)
        place += 1 if part[0] in JOINING else COMPARISON_WORDS
        wanted += JOINING.get(part[0], 0) - 1
    if place < len(words):
        return None
    return parts


def compares(value, sign, digit):
    """Whether a value is just that digit, less or more, as the sign says."""
    if sign == "=":
        return value == digit
    if sign == "<":
        return value < digit
    return value > digit


def holds(condition, state):
    """Whether a condition holds in a state."""
    # From the last part to the first: what a joining word joins is known then when it's reached.
    known = []
    for sign, thing, digit in reversed(condition):
        if sign == "not":
            known.append(not known.pop())
        elif sign in JOINING:
            one = known.pop()
            other = known.pop()
            known.append((one and other) if sign == "and" else (one or other))
        else:
            known.append(compares(state[thing], sign, digit))
    return known[0]
