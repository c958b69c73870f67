"""What groups of readers pay alone."""

CHANGE_COST = 2
READER_COUNT = 4


def size_of(table, grouping):
    """How many lines the grouping's answer has."""
    unlike = {}
    for numbers, summed in table.rows:
        unlike[tuple([number for place, number in enumerate(numbers) if grouping >> place & 1])] = True
    return len(unlike)


def all_sizes(table):
    """The size of each grouping, in order."""
    return [size_of(table, grouping) for grouping in range(1 << len(table.columns))]


def all_alone(table, readers, changes):
    """What each group pays alone, in order: the least that its questions, and all changes, can cost together."""
    least = least_costs(part_costs(table, changes))
    return [least[questions_of(readers, group)] for group in range(1 << READER_COUNT)]


def questions_of(readers, group):
    """The questions of the group's readers: the first question's bit is 1, the next one's 2, and so on."""
    chosen = 0
    for place, reader in enumerate(readers):
        chosen |= (group >> reader & 1) << place
    return chosen


def part_costs(table, changes):
    """For each set of questions, the least they cost if all read the same.

    That is the table, or one kept answer. From this all of them have to be worked
    out, and none such has a lesser size than that of all their columns together.
    """
    sizes = all_sizes(table)
    costs = []
    for part in range(1 << len(table.questions)):
        together = 0
        often = 0
        for place, (grouping, times) in enumerate(table.questions):
            if part >> place & 1:
                together |= grouping
                often += times
        kept = often * sizes[together] + CHANGE_COST * changes
        costs.append(min(often * len(table.rows), kept))
    return costs


def least_costs(costs):
    """The least that each set of questions costs, of all ways to part it.

    With the best set of kept answers, those that read the same make a part. With any
    other way to part them some set costs no more than the parts do: a question reads
    the least of what is kept, and what two parts keep alike is paid once.
    """
    least = [0]
    for chosen in range(1, len(costs)):
        least.append(least_parted(chosen, costs, least))
    return least


def least_parted(chosen, costs, least):
    """The least that the chosen ones cost: the part with the first of them, and the rest at its least."""
    others = chosen & (chosen - 1)
    best = costs[chosen]
    rest = others
    while rest > 0:
        best = min(best, costs[chosen ^ rest] + least[rest])
        rest = (rest - 1) & others
    return best
