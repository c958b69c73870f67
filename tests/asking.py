"""What the tests share: calls as numbers, their answers one by one, the worked text, plain ways to compare with."""

from sharesregrets.shares import answers

LEAST = -1000000000000000000
MOST = 1000000000000000000

WORKED = (
    "columns city, kind ; row 0, 0 : 5 ; row 0, 1 : 2 ; row 1, 0 : 4 ; row 1, 0 : -1 ; row 0, 0 : 1 ; "
    "ask city times 3 ; ask kind ; ask city, kind times 2 ; ask ;"
)


def load(text):
    """text: a text of plain signs, or a list of bytes."""
    numbers = list(text.encode("latin-1")) if isinstance(text, str) else list(text)
    return [0, len(numbers)] + numbers


def shown():
    return [1]


def readers(*numbers):
    return [2, len(numbers)] + list(numbers)


def changes(number):
    return [3, number]


def alone(group):
    return [4, group]


def shares():
    return [5]


def unhappy():
    return [6]


def bounds(low, high):
    return [7, len(low)] + list(low) + [len(high)] + list(high)


def regret(*groupings):
    return [8, len(groupings)] + list(groupings)


def least():
    return [9]


def ask(*calls):
    """What each of these calls on one new object answers, without the counts ahead."""
    given = answers([number for call in calls for number in call])
    parted = []
    place = 0
    for call in calls:
        parted.append(given[place + 1:place + 1 + given[place]])
        if len(parted[-1]) != given[place]:
            raise AssertionError(f"{call} is answered by too few numbers: {given}")
        place += 1 + given[place]
    if place != len(given):
        raise AssertionError(f"{len(calls)} calls, but more is answered: {given}")
    return parted


def ask_last(*calls):
    return ask(*calls)[-1]


def form_of(text):
    """The one form of a text that is right, as a text."""
    loaded, told = ask(load(text), shown())
    if loaded[0] != 1 or told[0] != len(told) - 1:
        raise AssertionError(f"{text!r} answers {loaded}, then {told}")
    return bytes(told[1:]).decode("ascii")


def text_of(column_count, rows, questions):
    """rows: numbers in order; questions: (grouping, times)."""
    names = "abcd"[:column_count]
    text = "columns " + ", ".join(names) + " ; "
    for row in rows:
        text += "row " + ", ".join(str(number) for number in row) + " : 1 ; "
    for grouping, times in questions:
        asked = [name for place, name in enumerate(names) if grouping >> place & 1]
        text += "ask " + ", ".join(asked) + f" times {times} ; "
    return text


def random_table(chosen, most_columns=3, most_rows=10, most_questions=8):
    """How many columns; rows; questions: by a random.Random, so the same ones each time."""
    column_count = chosen.randint(1, most_columns)
    most_value = chosen.choice([0, 1, 2, 2, 3, 9])
    rows = [tuple(chosen.randint(0, most_value) for place in range(column_count))
            for row in range(chosen.randint(0, most_rows))]
    questions = [(chosen.randrange(2 ** column_count), chosen.choice([1, 1, 2, 3, 5, 9, 20, 99]))
                 for question in range(chosen.randint(0, most_questions))]
    return column_count, rows, questions


def plain_sizes(column_count, rows):
    sizes = []
    for grouping in range(2 ** column_count):
        places = [place for place in range(column_count) if grouping >> place & 1]
        sizes.append(len({tuple(row[place] for place in places) for row in rows}))
    return sizes


def plain_read(kept, grouping, sizes, row_count):
    """What a question reads of the kept ones: the least size, else the table."""
    usable = [(sizes[other], other) for other in kept if other & grouping == grouping]
    return min(usable)[0] if usable else row_count


def plain_all_groups(column_count, rows, questions, belongs, change_count):
    """What each of the 16 groups pays alone."""
    sizes = plain_sizes(column_count, rows)
    best = [None] * 16
    for chosen in range(2 ** len(sizes)):
        kept = [grouping for grouping in range(len(sizes)) if chosen >> grouping & 1]
        reader_costs = [0, 0, 0, 0]
        for (grouping, times), reader in zip(questions, belongs):
            reader_costs[reader] += times * plain_read(kept, grouping, sizes, len(rows))
        for group in range(16):
            cost = 2 * change_count * len(kept)
            cost += sum(reader_costs[reader] for reader in range(4) if group >> reader & 1)
            if best[group] is None or cost < best[group]:
                best[group] = cost
    return best
