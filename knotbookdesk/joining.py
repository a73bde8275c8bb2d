"""Numbers that are joined in pairs, and the groups that come of it."""


def least_joined(size, pairs):
    """For each number below size the least one that it is joined to, directly or by others."""
    least = list(range(size))
    for one, other in pairs:
        low = min(least[one], least[other])
        high = max(least[one], least[other])
        least = [low if number == high else number for number in least]
    return least


def count_groups(size, pairs):
    """How many groups the numbers below size fall into."""
    return len(set(least_joined(size, pairs)))
