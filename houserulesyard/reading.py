"""Reading lines and texts."""

from houserulesyard.conditions import comparison_of, condition_of
from houserulesyard.parts import Entry, House, Thing, count_states, thing_called
from houserulesyard.refusals import BAD_SIZE, BEFORE_LINES, TOO_MUCH
from houserulesyard.signs import lines_of, words_of

LETTERS = "abcdefghijklmnopqrstuvwxyz"
LONGEST_NAME = 8
KEPT_WORDS = ("in", "out", "rule", "never", "and", "or", "not")
TOPS = ("1", "2", "3")
RULE_END_WORDS = 4
MOST_BYTES = 1200
MOST_THINGS = 6
MOST_ENTRIES = 16
MOST_STATES = 64


class Reading:
    """A house that was read, or the number by which its text is refused (else 0)."""

    def __init__(self, refusal, house):
        self.refusal = refusal
        self.house = house


def is_new_name(word, things):
    """Whether a thing that's told behind these may have that name."""
    if len(word) > LONGEST_NAME or word in KEPT_WORDS:
        return False
    if not all([sign in LETTERS for sign in word]):
        return False
    return thing_called(word, things) is None


def thing_of(words, things):
    """The thing that these words tell, behind those that are there; None if they tell none."""
    if len(words) != 3 or words[0] not in ("in", "out") or words[2] not in TOPS:
        return None
    if not is_new_name(words[1], things):
        return None
    return Thing(words[0], words[1], int(words[2]))


def rule_of(words, things):
    """The rule that these words say; None if they say none."""
    condition = condition_of(words[1:-RULE_END_WORDS], things)
    if condition is None or words[-RULE_END_WORDS] != "->":
        return None
    # What a rule sets is written like a condition that the thing has that value.
    setting = comparison_of(words[1 - RULE_END_WORDS:], things)
    if setting is None or setting[0] != "=" or things[setting[1]].kind != "out":
        return None
    return Entry(words, condition, setting[1], setting[2])


def ban_of(words, things):
    """The ban that these words say; None if they say none."""
    condition = condition_of(words[1:], things)
    if condition is None:
        return None
    return Entry(words, condition, None, None)


def entry_of(words, things):
    """The rule or the ban that these words say; None if they say neither."""
    if words[:1] == ["rule"]:
        return rule_of(words, things)
    if words[:1] == ["never"]:
        return ban_of(words, things)
    return None


def take_line(house, line):
    """Puts what a line says into a house that is being read; False if it says nothing."""
    words = words_of(line)
    thing = thing_of(words, house.things)
    if thing is not None and len(house.things) < MOST_THINGS:
        house.things.append(thing)
        return True
    entry = entry_of(words, house.things)
    if entry is not None and len(house.entries) < MOST_ENTRIES:
        house.entries.append(entry)
        return True
    return False


def read_text(text):
    """Reads the house that a text says."""
    if len(text) > MOST_BYTES:
        return Reading(TOO_MUCH, None)
    house = House([], [])
    for number, line in enumerate(lines_of(text), start=1):
        if not take_line(house, line):
            return Reading(BEFORE_LINES - number, None)
    if len(house.things) == 0 or count_states(house.things) > MOST_STATES:
        return Reading(BAD_SIZE, None)
    return Reading(0, house)
