"""What the tests share: calls as numbers, their answers one by one, the worked text."""

from sharesregrets.shares import answers

LEAST = -1000000000000000000
MOST = 1000000000000000000

WORKED = (
    "columns city, kind ; row 0, 0 : 5 ; row 0, 1 : 2 ; row 1, 0 : 4 ; row 1, 0 : -1 ; row 0, 0 : 1 ; "
    "ask city times 3 ; ask kind ; ask city, kind times 2 ; ask ;"
)


def load(text):
    """text: a text of plain signs, or a list of bytes."""
    numbers = list(text.encode("latin-1")) if isinstance(text, str) else list(text)
    return [0, len(numbers)] + numbers


def shown():
    return [1]


def readers(*numbers):
    return [2, len(numbers)] + list(numbers)


def changes(number):
    return [3, number]


def alone(group):
    return [4, group]


def shares():
    return [5]


def unhappy():
    return [6]


def bounds(low, high):
    return [7, len(low)] + list(low) + [len(high)] + list(high)


def regret(*groupings):
    return [8, len(groupings)] + list(groupings)


def least():
    return [9]


def ask(*calls):
    """What each of these calls on one new object answers, without the counts ahead."""
    given = answers([number for call in calls for number in call])
    parted = []
    place = 0
    for call in calls:
        parted.append(given[place + 1:place + 1 + given[place]])
        if len(parted[-1]) != given[place]:
            raise AssertionError(f"{call} is answered by too few numbers: {given}")
        place += 1 + given[place]
    if place != len(given):
        raise AssertionError(f"{len(calls)} calls, but more is answered: {given}")
    return parted


def ask_last(*calls):
    return ask(*calls)[-1]


def form_of(text):
    """The one form of a text that is right, as a text."""
    loaded, told = ask(load(text), shown())
    if loaded[0] != 1 or told[0] != len(told) - 1:
        raise AssertionError(f"{text!r} answers {loaded}, then {told}")
    return bytes(told[1:]).decode("ascii")
