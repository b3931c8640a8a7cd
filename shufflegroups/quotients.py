"""Groups made of groups: quotients and products; and the shape, which is read from quotients."""

from shufflegroups.structure import generated
from shufflegroups.subsets import least_in_cosets, least_subgroup, mixed_of


def quotient(group, normal_one):
    least = least_in_cosets(group, normal_one)

    def product(first, second):
        return (least[group.times(first[0], second[0])],)

    return generated((0,), [(least[i],) for i in group.generators], product)


def paired(group, other):
    """The product of two groups, or None if it would have too many elements."""
    width = other.size()

    def product(first, second):
        left = group.times(first[0] // width, second[0] // width)
        right = other.times(first[0] % width, second[0] % width)
        return (left * width + right,)

    generators = [(i * width,) for i in group.generators] + [(j,) for j in other.generators]
    return generated((0,), generators, product)


def shape_of(group):
    whole = list(range(group.size()))
    rest = quotient(group, mixed_of(group, whole, whole))
    shape = []
    # In a group that commutes, what an element of the greatest order makes splits off
    # whole; its order is the last number, and what is left over has the others.
    while rest.size() > 1:
        orders = [rest.order(i) for i in range(rest.size())]
        greatest = max(orders)
        shape.insert(0, greatest)
        rest = quotient(rest, least_subgroup(rest, [orders.index(greatest)]))
    return shape
