"""The calls on one object, one behind another, and what they answer."""

from sharesregrets.costs import pays_alone
from sharesregrets.tables import one_form, read_table
from sharesregrets.tokens import TableFault

LOAD = 0
SHOWN = 1
READERS = 2
CHANGES = 3
ALONE = 4

# What stands behind each call's number, in order.
FORMS = (
    ("list",),
    (),
    ("list",),
    ("number",),
    ("number",),
    (),
    (),
    ("list", "list"),
    ("list",),
    (),
)

MOST_READER = 3
MOST_CHANGES = 1000
MOST_GROUP = 15

# Refusals are told as these numbers below 0.
NO_TABLE = 1
NO_GROUP = 2
WRONG_LIST = 3
WRONG_CHANGES = 4


class CallNotWritten(NotImplementedError):
    """A call that this program reads, but does not answer yet while there is a table."""


class Held:
    """What the object holds: a table, each question's reader, and the changes; or none."""

    def __init__(self):
        self.table = None
        self.readers = []
        self.changes = 0


class CallWalk:
    """The numbers of all calls, taken one behind another."""

    def __init__(self, calls):
        self.calls = calls
        self.walked = 0

    def at_end(self):
        return self.walked == len(self.calls)

    def take_one(self):
        number = self.calls[self.walked]
        self.walked += 1
        return number

    def take_list(self):
        count = self.take_one()
        begin = self.walked
        self.walked += count
        return self.calls[begin:self.walked]


def answers(calls):
    """For each call how many numbers are answered, then they."""
    walk = CallWalk(calls)
    held = Held()
    given = []
    while not walk.at_end():
        number = walk.take_one()
        answer = answer_call(held, number, take_arguments(walk, number))
        given.append(len(answer))
        given.extend(answer)
    return given


def take_arguments(walk, number):
    arguments = []
    for kind in FORMS[number]:
        if kind == "list":
            arguments.append(walk.take_list())
        else:
            arguments.append(walk.take_one())
    return arguments


def answer_call(held, number, arguments):
    if number == LOAD:
        return answer_load(held, arguments[0])
    if held.table is None:
        return refusal(NO_TABLE)
    if number == SHOWN:
        return answer_shown(held)
    if number == READERS:
        return answer_readers(held, arguments[0])
    if number == CHANGES:
        return answer_changes(held, arguments[0])
    if number == ALONE:
        return answer_alone(held, arguments[0])
    raise CallNotWritten(f"call {number} is not written yet")


def refusal(code):
    return [-code]


def answer_load(held, text):
    try:
        table = read_table(text)
    except TableFault as fault:
        return [0, fault.code, fault.place]
    held.table = table
    held.readers = [0] * len(table.questions)
    held.changes = 0
    return [1, len(table.columns), len(table.rows), len(table.questions)]


def answer_shown(held):
    form = one_form(held.table)
    return [len(form)] + form


def answer_readers(held, readers):
    if len(readers) != len(held.table.questions):
        return refusal(WRONG_LIST)
    for reader in readers:
        if reader < 0 or reader > MOST_READER:
            return refusal(WRONG_LIST)
    held.readers = readers
    return [1]


def answer_changes(held, changes):
    if changes < 0 or changes > MOST_CHANGES:
        return refusal(WRONG_CHANGES)
    held.changes = changes
    return [1]


def answer_alone(held, group):
    if group < 0 or group > MOST_GROUP:
        return refusal(NO_GROUP)
    return [pays_alone(held.table, held.readers, held.changes, group)]
