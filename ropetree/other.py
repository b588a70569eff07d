"""Trees other than the least one: a second tree, and the exchanges from one tree to another."""

from ropetree.errors import NoTree
from ropetree.least import least_tree
from ropetree.nets import cost_of, from_cheapest, is_tree, take_ringless, ways_from


def second_tree(count, ropes):
    least = least_tree(count, ropes)
    # Each other tree is without some rope of the least one.
    rests = [least_without(count, ropes, number) for number in least]
    # Where a rope is in no ring, what is left without it is no tree.
    trees = [rest for rest in rests if len(rest) == len(least)]
    if not trees:
        return None
    second = min(trees, key=lambda tree: cost_of(ropes, tree))
    return (second, cost_of(ropes, second))


def least_without(count, ropes, out):
    return sorted(take_ringless(count, ropes, [number for number in from_cheapest(ropes) if number != out]))


def steps_to(count, ropes, one, other):
    if not is_tree(count, ropes, one) or not is_tree(count, ropes, other):
        raise NoTree("no tree")
    steps = []
    tree = list(one)
    for number in other:
        if number not in one:
            out = rope_to_leave(ropes, tree, other, number)
            steps.append((out, number))
            tree = [kept for kept in tree if kept != out] + [number]
    return steps


# The other tree has no ring, so of the ring that the rope makes at least one isn't in it.
def rope_to_leave(ropes, tree, other, number):
    rope = ropes[number]
    ring = ways_from(ropes, tree, rope[0])[rope[1]]
    return [kept for kept in ring if kept not in other][0]
