"""Subsets and orders of some items, in the order in which the first one of several is chosen."""


def all_subsets(items):
    """The list of all subsets of ascending items as ascending tuples, the shortest first, then in tuple order."""
    found = [()]
    longest = [()]
    for _ in items:
        longest = [row + (item,) for row in longest for item in items if row == () or item > row[-1]]
        found.extend(longest)
    return found


def all_orders(items):
    """The list of all orders of ascending items as tuples, in tuple order."""
    found = [()]
    for _ in items:
        found = [row + (item,) for row in found for item in items if item not in row]
    return found
