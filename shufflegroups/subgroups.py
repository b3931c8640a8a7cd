"""Subgroups that a group has of itself: its rows of mixed ones, those of prime powers, whether it is simple."""

from shufflegroups.subsets import least_normal, least_subgroup, mixed_of, turned_by


def row_of_mixed(group, lower):
    whole = list(range(group.size()))
    row = [whole]
    following = mixed_of(group, whole, whole)
    while len(following) < len(row[-1]):
        row.append(following)
        following = mixed_of(group, following, whole if lower else following)
    return row


def is_prime(p):
    return p > 1 and all([p % divisor != 0 for divisor in range(2, p)])


def greatest_power(p, number):
    """The greatest power of p that divides the number."""
    found = 1
    while number % (found * p) == 0:
        found *= p
    return found


def falling(members):
    # Of two sets the one is less as a number that is less from its greatest element down.
    return list(reversed(members))


def prime_subgroup(group, p):
    most = greatest_power(p, group.size())
    found = [0]
    # An element refused once would be refused by what is found later, too: that holds
    # more. So one walk ends with a subgroup that can't grow, and that has most elements.
    for i in range(group.size()):
        reached = least_subgroup(group, found + [i])
        if most % len(reached) == 0:
            found = reached
    # The subgroups of that size are all this one turned (Sylow).
    return min([turned_by(group, found, j) for j in range(group.size())], key=falling)


def is_simple(group):
    if group.size() == 1:
        return False
    # A normal subgroup has what any one of its elements makes, turned.
    return all([len(least_normal(group, [i])) == group.size() for i in range(1, group.size())])
