"""The least tree and the dearest one, what a tree costs, and why a rope is in the least tree or not."""

from ropetree.errors import NoRope, NoTree
from ropetree.nets import check_ropes, cost_of, from_cheapest, is_rope_number, is_tree, take_ringless, ways_from


def least_tree(count, ropes):
    check_ropes(count, ropes)
    # From the cheapest on, so that the rope left of each ring is its dearest.
    return sorted(take_ringless(count, ropes, from_cheapest(ropes)))


def dearest_tree(count, ropes):
    return least_tree(count, [(rope[0], rope[1], -rope[2]) for rope in ropes])


def total(count, ropes, numbers):
    if not is_tree(count, ropes, numbers):
        raise NoTree("no tree")
    return cost_of(ropes, numbers)


def why(count, ropes, number):
    # Ahead of the rope's number, because NoPlace goes ahead of any other refusal.
    check_ropes(count, ropes)
    if not is_rope_number(ropes, number):
        raise NoRope("no rope")
    rope = ropes[number]
    tree = least_tree(count, ropes)
    if number in tree:
        others = [kept for kept in tree if kept != number]
        return ("in", sorted(ways_from(ropes, others, rope[0])))
    return ("out", ways_from(ropes, tree, rope[0])[rope[1]])
