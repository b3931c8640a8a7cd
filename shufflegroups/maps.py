"""Maps of one group into another by which products go to products."""

MOST_CHOICES = 4096


def too_many_choices(group, other):
    count = 1
    for generator in group.generators:
        count *= other.size()
    return count > MOST_CHOICES


def choices(size, length):
    """All rows of that length of numbers below size."""
    rows = [[]]
    for step in range(length):
        longer = []
        for row in rows:
            longer.extend([row + [number] for number in range(size)])
        rows = longer
    return rows


def extended(group, other, images):
    """The map that gives the generators these images, as a row, or None if there's none."""
    row = [None] * group.size()
    row[0] = 0
    # An element comes behind those that its word begins with, so its image is known here.
    for i in range(group.size()):
        for generator, image in zip(group.generators, images):
            reached = group.times(i, generator)
            wanted = other.times(row[i], image)
            if row[reached] is None:
                row[reached] = wanted
            elif row[reached] != wanted:
                return None
    return row


def all_maps(group, other):
    found = []
    # A map is known by what it gives the generators.
    for images in choices(other.size(), len(group.generators)):
        row = extended(group, other, images)
        if row is not None:
            found.append(row)
    return found


def first_same(group, other):
    """The first map by which both groups are the same, or None if there's none."""
    if group.size() != other.size():
        return None
    return min([row for row in all_maps(group, other) if len(set(row)) == group.size()], default=None)
