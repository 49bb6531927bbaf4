"""The calls on a house, one behind another, and what they answer."""

from houserulesyard.asking import all_values, logged, sizes, value_of, why_so
from houserulesyard.changing import addition, make, may_make, reedit, relocation, removal, unedit
from houserulesyard.coming import could_come, count_coming, idle_rules
from houserulesyard.refusals import NO_HOUSE
from houserulesyard.running import Running, begin, do_again, load, look_ahead, mayload, set_thing, take_back
from houserulesyard.telling import find_thing, tell_house, tell_line, tell_name

# Each call by its number: its name, how many whole numbers it has, whether a row stands behind them.
CALLS = (
    ("begin", 0, False),
    ("load", 0, True),
    ("mayload", 0, True),
    ("tell", 0, False),
    ("add", 1, True),
    ("mayadd", 1, True),
    ("drop", 1, False),
    ("maydrop", 1, False),
    ("move", 2, False),
    ("maymove", 2, False),
    ("unedit", 0, False),
    ("reedit", 0, False),
    ("set", 2, False),
    ("look", 2, False),
    ("back", 0, False),
    ("again", 0, False),
    ("value", 1, False),
    ("values", 0, False),
    ("why", 1, False),
    ("line", 1, False),
    ("name", 1, False),
    ("find", 0, True),
    ("could", 0, True),
    ("count", 0, False),
    ("idle", 0, False),
    ("log", 1, False),
    ("state", 0, False),
)
# The calls that change the entries by what they're handed, and those that ask how such a change is judged.
MAKING = ("add", "drop", "move")
ASKING = ("mayadd", "maydrop", "maymove")
# Of the others that need a house, those that are handed a row, a number, two numbers; the rest are handed nothing.
WITH_ROW = ("find", "could")
WITH_NUMBER = ("value", "why", "line", "name", "log")
WITH_EVENT = ("set", "look")


class Call:
    """A call: its name, its whole numbers, its row (empty if it has none), and the place behind it."""

    def __init__(self, name, numbers, row, behind):
        self.name = name
        self.numbers = numbers
        self.row = row
        self.behind = behind


def call_at(calls, place):
    """The call that begins at this place."""
    form = CALLS[calls[place]]
    behind = place + 1 + form[1]
    numbers = calls[place + 1:behind]
    if not form[2]:
        return Call(form[0], numbers, [], behind)
    row_at = behind + 1
    behind = row_at + calls[behind]
    return Call(form[0], numbers, calls[row_at:behind], behind)


def wanted_change(house, call):
    """The change of entries that a call wants, or asks about."""
    if call.name in ("add", "mayadd"):
        return addition(house, call.numbers[0], call.row)
    if call.name in ("drop", "maydrop"):
        return removal(house, call.numbers[0])
    return relocation(house, call.numbers[0], call.numbers[1])


def answer_to_row(running, name, row):
    """What is answered to a call that is handed a row."""
    if name == "find":
        return find_thing(running.house, row)
    return could_come(running, row)


def answer_to_number(running, name, number):
    """What is answered to a call that is handed a number."""
    if name == "value":
        return value_of(running, number)
    if name == "why":
        return why_so(running, number)
    if name == "line":
        return tell_line(running.house, number)
    if name == "name":
        return tell_name(running.house, number)
    return logged(running, number)


def answer_to_event(running, name, thing, value):
    """What is answered to a call that is handed a thing and a value."""
    if name == "set":
        return set_thing(running, thing, value)
    return look_ahead(running, thing, value)


def answer_to_name(running, name):
    """What is answered to a call that is handed nothing."""
    if name == "unedit":
        return unedit(running)
    if name == "reedit":
        return reedit(running)
    if name == "back":
        return take_back(running)
    if name == "again":
        return do_again(running)
    if name == "values":
        return all_values(running)
    if name == "count":
        return count_coming(running)
    if name == "idle":
        return idle_rules(running)
    return tell_house(running.house)


def answer_in_house(running, call):
    """What is answered to a call that needs a house, where there's one."""
    if call.name in MAKING:
        return make(running, wanted_change(running.house, call))
    if call.name in ASKING:
        return may_make(running, wanted_change(running.house, call))
    if call.name in WITH_ROW:
        return answer_to_row(running, call.name, call.row)
    if call.name in WITH_NUMBER:
        return answer_to_number(running, call.name, call.numbers[0])
    if call.name in WITH_EVENT:
        return answer_to_event(running, call.name, call.numbers[0], call.numbers[1])
    return answer_to_name(running, call.name)


def answer_to(running, call):
    """What is answered to a call."""
    if call.name == "begin":
        return begin(running)
    if call.name == "load":
        return load(running, call.row)
    if call.name == "mayload":
        return mayload(call.row)
    if call.name == "state":
        return sizes(running)
    if running.house is None:
        return [NO_HOUSE]
    return answer_in_house(running, call)


def answers(calls):
    """What is answered to these calls on a new object, each answer with its length before it."""
    running = Running()
    answered = []
    place = 0
    while place < len(calls):
        call = call_at(calls, place)
        answer = answer_to(running, call)
        answered.append(len(answer))
        answered.extend(answer)
        place = call.behind
    return answered
