"""All ways to take some of several things."""


def subsets(items, most):
    """Return the list of all tuples of at most so many of an ascending list's items.

    In each of them the items ascend; the shorter ones come first, then in tuple order.
    """
    longest = [()]
    found = [()]
    for _ in range(most):
        # In tuple order again, as each tuple in order is continued by each greater item in order.
        longest = [(*taken, item) for taken in longest for item in items if not taken or taken[-1] < item]
        found = found + longest
    return found
