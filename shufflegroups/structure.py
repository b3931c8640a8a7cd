"""A group by its table: numbered elements, their names, their words and their products."""

MOST_IN_A_GROUP = 60
MOST_GENERATORS = 4


class Group:
    """Elements are known by their numbers alone; 0 is the one that changes nothing."""

    def __init__(self, names, words, table, generators):
        self.names = names
        self.words = words
        self.table = table
        self.generators = generators
        self.inverses = [row.index(0) for row in table]

    def size(self):
        return len(self.names)

    def times(self, i, j):
        return self.table[i][j]

    def inverse(self, i):
        return self.inverses[i]

    def turned(self, i, j):
        return self.times(self.times(j, i), self.inverse(j))

    def order(self, i):
        k = 1
        reached = i
        while reached != 0:
            reached = self.times(reached, i)
            k += 1
        return k

    def power(self, i, n):
        # n may be in the billions, but powers come round again after the order.
        reached = 0
        for step in range(n % self.order(i)):
            reached = self.times(reached, i)
        return reached


def generated(one, generators, product):
    """The group of all products of the generators, or None if it would have too many elements.

    Names are tuples; product gives the name of a product from two names.
    """
    names = [one]
    words = [[]]
    numbers = {one: 0}
    at = 0
    # Taking elements in the order of their words, and generators in theirs, an
    # element is first reached by the first of its shortest words.
    while at < len(names):
        for number, generator in enumerate(generators):
            reached = product(names[at], generator)
            if reached not in numbers:
                if len(names) == MOST_IN_A_GROUP:
                    return None
                numbers[reached] = len(names)
                names.append(reached)
                words.append(words[at] + [number])
        at += 1
    return Group(names, words, table_of(names, numbers, product), [numbers[name] for name in generators])


def table_of(names, numbers, product):
    table = []
    for first in names:
        table.append([numbers[product(first, second)] for second in names])
    return table
