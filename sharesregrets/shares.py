"""The calls on one object, one behind another, and what they answer."""

from sharesregrets.costs import all_alone
from sharesregrets.fairness import all_shares, unhappy_groups
from sharesregrets.regrets import SmallSets
from sharesregrets.tables import one_form, read_table
from sharesregrets.tokens import TableFault

LOAD = 0
SHOWN = 1
READERS = 2
CHANGES = 3
ALONE = 4
SHARES = 5
UNHAPPY = 6
BOUNDS = 7
REGRET = 8

# What stands behind each call's number, in order.
FORMS = (
    ("list",),
    (),
    ("list",),
    ("number",),
    ("number",),
    (),
    (),
    ("list", "list"),
    ("list",),
    (),
)

MOST_READER = 3
MOST_CHANGES = 1000
MOST_GROUP = 15
MOST_OFTEN = 99
MOST_KEPT = 2

# Refusals are told as these numbers below 0.
NO_TABLE = 1
NO_GROUP = 2
NO_GROUPING = 2
WRONG_LIST = 3
WRONG_CHANGES = 4
TOO_MANY_KEPT = 5


class Held:
    """What the object holds: a table, each question's reader, the changes, and both bounds; or none."""

    def __init__(self):
        self.table = None
        self.readers = []
        self.changes = 0
        self.low = []
        self.high = []


class CallWalk:
    """The numbers of all calls, taken one behind another."""

    def __init__(self, calls):
        self.calls = calls
        self.walked = 0

    def at_end(self):
        return self.walked == len(self.calls)

    def take_one(self):
        number = self.calls[self.walked]
        self.walked += 1
        return number

    def take_list(self):
        count = self.take_one()
        begin = self.walked
        self.walked += count
        return self.calls[begin:self.walked]


def answers(calls):
    """For each call how many numbers are answered, then they."""
    walk = CallWalk(calls)
    held = Held()
    given = []
    while not walk.at_end():
        number = walk.take_one()
        answer = answer_call(held, number, take_arguments(walk, number))
        given.append(len(answer))
        given.extend(answer)
    return given


def take_arguments(walk, number):
    arguments = []
    for kind in FORMS[number]:
        if kind == "list":
            arguments.append(walk.take_list())
        else:
            arguments.append(walk.take_one())
    return arguments


def answer_call(held, number, arguments):
    if number == LOAD:
        return answer_load(held, arguments[0])
    if held.table is None:
        return refusal(NO_TABLE)
    if number == SHOWN:
        return answer_shown(held)
    if number == READERS:
        return answer_readers(held, arguments[0])
    if number == CHANGES:
        return answer_changes(held, arguments[0])
    if number == ALONE:
        return answer_alone(held, arguments[0])
    if number == SHARES:
        return answer_shares(held)
    if number == UNHAPPY:
        return answer_unhappy(held)
    if number == BOUNDS:
        return answer_bounds(held, arguments[0], arguments[1])
    if number == REGRET:
        return answer_regret(held, arguments[0])
    return answer_least(held)


def refusal(code):
    return [-code]


def answer_load(held, text):
    try:
        table = read_table(text)
    except TableFault as fault:
        return [0, fault.code, fault.place]
    held.table = table
    held.readers = [0] * len(table.questions)
    held.changes = 0
    held.low = [times for grouping, times in table.questions]
    held.high = list(held.low)
    return [1, len(table.columns), len(table.rows), len(table.questions)]


def answer_shown(held):
    form = one_form(held.table)
    return [len(form)] + form


def answer_readers(held, readers):
    if len(readers) != len(held.table.questions):
        return refusal(WRONG_LIST)
    for reader in readers:
        if reader < 0 or reader > MOST_READER:
            return refusal(WRONG_LIST)
    held.readers = readers
    return [1]


def answer_changes(held, changes):
    if changes < 0 or changes > MOST_CHANGES:
        return refusal(WRONG_CHANGES)
    held.changes = changes
    return [1]


def answer_alone(held, group):
    if group < 0 or group > MOST_GROUP:
        return refusal(NO_GROUP)
    return [groups_alone(held)[group]]


def groups_alone(held):
    return all_alone(held.table, held.readers, held.changes)


def answer_shares(held):
    alone = groups_alone(held)
    answer = [alone[MOST_GROUP]]
    for numerator, denominator in all_shares(alone):
        answer.append(numerator)
        answer.append(denominator)
    return answer


def answer_unhappy(held):
    return told_set(unhappy_groups(groups_alone(held)))


def told_set(members):
    return [len(members)] + members


def answer_bounds(held, low, high):
    count = len(held.table.questions)
    if len(low) != count or len(high) != count:
        return refusal(WRONG_LIST)
    for least, most in zip(low, high):
        if least < 0 or most > MOST_OFTEN or least > most:
            return refusal(WRONG_LIST)
    held.low = low
    held.high = high
    return [1]


def small_sets(held):
    return SmallSets(held.table, held.changes, held.low, held.high)


def answer_regret(held, groupings):
    for grouping in groupings:
        if grouping < 0 or grouping >= 1 << len(held.table.columns):
            return refusal(NO_GROUPING)
    kept = sorted(set(groupings))
    if len(kept) > MOST_KEPT:
        return refusal(TOO_MANY_KEPT)
    small = small_sets(held)
    own = small.sets.index(kept)
    return [small.greatest_regret(own)] + told_set(small.sets[small.regretted(own)])


def answer_least(held):
    small = small_sets(held)
    own = small.least()
    return [small.greatest_regret(own)] + told_set(small.sets[own]) + told_set(small.sets[small.regretted(own)])
