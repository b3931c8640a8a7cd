"""Sets of a group's elements: lists of their numbers, rising."""


def is_set(group, row):
    before = -1
    for i in row:
        if i <= before or i >= group.size():
            return False
        before = i
    return True


def least_subgroup(group, members):
    # In a finite group inverses are powers, so products of members are enough.
    found = [0]
    known = {0: True}
    at = 0
    while at < len(found):
        for i in members:
            reached = group.times(found[at], i)
            if reached not in known:
                known[reached] = True
                found.append(reached)
        at += 1
    return sorted(found)


def turned_by(group, members, j):
    return sorted([group.turned(i, j) for i in members])


def all_turned(group, members):
    found = {}
    for i in members:
        for j in range(group.size()):
            found[group.turned(i, j)] = True
    return sorted(found)


def least_normal(group, members):
    # What is made of a set that turning leaves whole is left whole by it, too.
    return least_subgroup(group, all_turned(group, members))


def is_subgroup(group, members):
    return least_subgroup(group, members) == members


def is_normal(group, members):
    return least_normal(group, members) == members


def commutes(group, i, members):
    return all([group.times(i, j) == group.times(j, i) for j in members])


def commuting(group, members):
    return [i for i in range(group.size()) if commutes(group, i, members)]


def keeping(group, members):
    return [j for j in range(group.size()) if turned_by(group, members, j) == members]


def mixed_pair(group, i, j):
    return group.times(group.times(group.inverse(i), group.inverse(j)), group.times(i, j))


def mixed_of(group, members, others):
    found = {}
    for i in members:
        for j in others:
            found[mixed_pair(group, i, j)] = True
    return least_subgroup(group, sorted(found))


def least_in_classes(group):
    return [min(all_turned(group, [i])) for i in range(group.size())]


def least_in_cosets(group, subgroup):
    return [min([group.times(i, x) for x in subgroup]) for i in range(group.size())]
