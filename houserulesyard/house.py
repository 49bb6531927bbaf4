"""The calls on a house, one behind another, and what they answer."""

from houserulesyard.changing import addition, make, may_make, reedit, relocation, removal, unedit
from houserulesyard.refusals import NO_HOUSE
from houserulesyard.running import Running, begin, load, look_ahead, mayload, set_thing
from houserulesyard.telling import tell_house

# Each call by its number: its name, how many whole numbers it has, whether a row stands behind them.
CALLS = (
    ("begin", 0, False),
    ("load", 0, True),
    ("mayload", 0, True),
    ("tell", 0, False),
    ("add", 1, True),
    ("mayadd", 1, True),
    ("drop", 1, False),
    ("maydrop", 1, False),
    ("move", 2, False),
    ("maymove", 2, False),
    ("unedit", 0, False),
    ("reedit", 0, False),
    ("set", 2, False),
    ("look", 2, False),
)
# The calls that change the entries by what they're handed, and those that ask how such a change is judged.
MAKING = ("add", "drop", "move")
ASKING = ("mayadd", "maydrop", "maymove")


class Call:
    """A call: its name, its whole numbers, its row (empty if it has none), and the place behind it."""

    def __init__(self, name, numbers, row, behind):
        self.name = name
        self.numbers = numbers
        self.row = row
        self.behind = behind


def call_at(calls, place):
    """The call that begins at this place."""
    form = CALLS[calls[place]]
    behind = place + 1 + form[1]
    numbers = calls[place + 1:behind]
    if not form[2]:
        return Call(form[0], numbers, [], behind)
    row_at = behind + 1
    behind = row_at + calls[behind]
    return Call(form[0], numbers, calls[row_at:behind], behind)


def wanted_change(house, call):
    """The change of entries that a call wants, or asks about."""
    if call.name in ("add", "mayadd"):
        return addition(house, call.numbers[0], call.row)
    if call.name in ("drop", "maydrop"):
        return removal(house, call.numbers[0])
    return relocation(house, call.numbers[0], call.numbers[1])


def answer_in_house(running, call):
    """What is answered to a call that needs a house, where there's one."""
    if call.name in MAKING:
        return make(running, wanted_change(running.house, call))
    if call.name in ASKING:
        return may_make(running, wanted_change(running.house, call))
    if call.name == "unedit":
        return unedit(running)
    if call.name == "reedit":
        return reedit(running)
    if call.name == "set":
        return set_thing(running, call.numbers[0], call.numbers[1])
    if call.name == "look":
        return look_ahead(running, call.numbers[0], call.numbers[1])
    return tell_house(running.house)


def answer_to(running, call):
    """What is answered to a call."""
    if call.name == "begin":
        return begin(running)
    if call.name == "load":
        return load(running, call.row)
    if call.name == "mayload":
        return mayload(call.row)
    if running.house is None:
        return [NO_HOUSE]
    return answer_in_house(running, call)


def answers(calls):
    """What is answered to these calls on a new object, each answer with its length before it."""
    running = Running()
    answered = []
    place = 0
    while place < len(calls):
        call = call_at(calls, place)
        answer = answer_to(running, call)
        answered.append(len(answer))
        answered.extend(answer)
        place = call.behind
    return answered
