"""Sets of at most two groupings, and what one may regret with them while only bounds are known."""

from sharesregrets.costs import CHANGE_COST, all_sizes


class SmallSets:
    """All sets of at most two groupings: with each, what the questions read and what the changes cost.

    A set is spoken of by its place among them.
    """

    def __init__(self, table, changes, low, high):
        sizes = all_sizes(table)
        self.low = low
        self.high = high
        self.sets = sets_in_order(len(sizes))
        self.reads = [all_reads(table, sizes, kept) for kept in self.sets]
        self.upkeep = [CHANGE_COST * changes * len(kept) for kept in self.sets]

    def most_dearer(self, own, other):
        """By how much the own set may cost more than the other one, at most; below 0 if it is cheaper anyhow."""
        dearer = self.upkeep[own] - self.upkeep[other]
        for place, reads in enumerate(self.reads[own]):
            more = reads - self.reads[other][place]
            often = self.high[place] if more > 0 else self.low[place]
            dearer += more * often
        return dearer

    def regretted(self, own):
        """The first set to which the own set's regret is greatest; itself, if there is nothing to regret."""
        greatest = 0
        to = own
        for other in range(len(self.sets)):
            dearer = self.most_dearer(own, other)
            if dearer > greatest:
                greatest = dearer
                to = other
        return to

    def greatest_regret(self, own):
        return self.most_dearer(own, self.regretted(own))

    def least(self):
        """The first set whose greatest regret is least."""
        greatest = [self.greatest_regret(own) for own in range(len(self.sets))]
        return greatest.index(min(greatest))


def sets_in_order(grouping_count):
    """None; each grouping alone; each two, by the lesser one, then by the other one."""
    sets = [[]]
    for grouping in range(grouping_count):
        sets.append([grouping])
    for lesser in range(grouping_count):
        for greater in range(lesser + 1, grouping_count):
            sets.append([lesser, greater])
    return sets


def all_reads(table, sizes, kept):
    """How many lines of a kept answer, or rows of the table, each question reads."""
    reads = []
    for grouping, times in table.questions:
        usable = [sizes[other] for other in kept if other & grouping == grouping]
        reads.append(min(usable, default=len(table.rows)))
    return reads
