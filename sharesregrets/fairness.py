"""What each reader adds on the mean of all orders, and which groups that leaves unhappy.

Both are told of what the 16 groups pay alone, in order.
"""

from sharesregrets.costs import READER_COUNT

ORDERS = 24

# In how many of the orders just those of a group of 0, 1, 2, 3 readers stand before another one.
ORDERS_BEHIND = (6, 2, 2, 6)


def added_in_orders(alone, reader):
    """What the reader adds in each of the orders, together: its share is this, parted by ORDERS."""
    bit = 1 << reader
    together = 0
    for before in range(len(alone)):
        if before & bit == 0:
            together += ORDERS_BEHIND[readers_in(before)] * (alone[before | bit] - alone[before])
    return together


def all_added(alone):
    return [added_in_orders(alone, reader) for reader in range(READER_COUNT)]


def readers_in(group):
    return sum([group >> reader & 1 for reader in range(READER_COUNT)])


def all_shares(alone):
    """Each reader's share: its numerator and its denominator, in lowest terms."""
    return [in_lowest_terms(added, ORDERS) for added in all_added(alone)]


def in_lowest_terms(numerator, denominator):
    common = denominator
    rest = numerator
    while rest > 0:
        left = common % rest
        common = rest
        rest = left
    return (numerator // common, denominator // common)


def unhappy_groups(alone):
    """The groups whose shares together are more than what they pay alone, in order."""
    added = all_added(alone)
    unhappy = []
    for group in range(len(alone)):
        together = sum([added[reader] for reader in range(READER_COUNT) if group >> reader & 1])
        if together > ORDERS * alone[group]:
            unhappy.append(group)
    return unhappy
