"""Ways whose dearest rope costs as little as can be, and the places that hang together below a bound."""

from ropetree.least import least_tree
from ropetree.nets import check_places, check_ropes, ways_from


def best_way(count, ropes, one, other):
    check_places(count, [one, other])
    # In the least tree all ways are best ways.
    ways = ways_from(ropes, least_tree(count, ropes), one)
    if other not in ways:
        return ("wall", sorted(ways))
    numbers = ways[other]
    return ("way", numbers, max([ropes[number][2] for number in numbers], default=None))


def groups_below(count, ropes, bound):
    check_ropes(count, ropes)
    cheap = [number for number in range(len(ropes)) if ropes[number][2] < bound]
    groups = []
    grouped = {}
    # From the least place on, so that the groups stand in the order of their least places.
    for place in range(count):
        if place not in grouped:
            group = sorted(ways_from(ropes, cheap, place))
            groups.append(group)
            for member in group:
                grouped[member] = True
    return groups
