"""The order of record sets, and places in ascending lists."""

from provenames.records import KINDS


def order_of(record_set):
    """Return what record sets are ordered by: the owner, then the place of the kind."""
    return (record_set[0], KINDS.index(record_set[1]))


def count_before(items, item):
    """Return how many items of the ascending list are less than the item."""
    low = 0
    high = len(items)
    while low < high:
        middle = (low + high) // 2
        if items[middle] < item:
            low = middle + 1
        else:
            high = middle
    return low
