"""Small nets and slow answers straight from the words of the document, to compare with."""

import itertools
import random


def hanging(count, ropes, numbers, start):
    """All places that hang together with the start by ropes of these numbers."""
    reached = {start}
    while True:
        more = set(reached)
        for number in numbers:
            one, other, cost = ropes[number]
            if one in more or other in more:
                more |= {one, other}
        if more == reached:
            return reached
        reached = more


def parts(count, ropes, numbers):
    return {frozenset(hanging(count, ropes, numbers, place)) for place in range(count)}


def has_ring(count, ropes, numbers):
    """A rope is in a ring just where its ends hang together without it."""
    for number in numbers:
        rest = [kept for kept in numbers if kept != number]
        if ropes[number][1] in hanging(count, ropes, rest, ropes[number][0]):
            return True
    return False


def tree_by_words(count, ropes, numbers):
    """For different numbers of ropes that are there."""
    every = range(len(ropes))
    return not has_ring(count, ropes, numbers) and parts(count, ropes, numbers) == parts(count, ropes, every)


def all_trees(count, ropes):
    every = range(len(ropes))
    choices = [list(some) for size in range(count + 1) for some in itertools.combinations(every, size)]
    return [some for some in choices if tree_by_words(count, ropes, some)]


def cost_of(ropes, numbers):
    return sum(ropes[number][2] for number in numbers)


def rank(ropes, number):
    """The greater, the dearer."""
    return (ropes[number][2], number)


def ring_with(count, ropes, tree, number):
    """The ropes of the tree that are a ring with a rope that isn't in it."""
    one, other, cost = ropes[number]
    ring = []
    for kept in tree:
        rest = [rope for rope in tree if rope != kept]
        if other not in hanging(count, ropes, rest, one):
            ring.append(kept)
    return ring


def is_least(count, ropes, tree):
    """Whether each rope that isn't in the tree is the dearest of its ring."""
    for number in range(len(ropes)):
        if number not in tree:
            ring = ring_with(count, ropes, tree, number)
            if any(rank(ropes, kept) > rank(ropes, number) for kept in ring):
                return False
    return True


def least_anew(count, ropes):
    """The least tree, by leaving each rope, the dearest first, without which its ends still hang together."""
    kept = list(range(len(ropes)))
    for number in sorted(kept, key=lambda number: rank(ropes, number), reverse=True):
        rest = [other for other in kept if other != number]
        if ropes[number][1] in hanging(count, ropes, rest, ropes[number][0]):
            kept = rest
    return kept


def all_ways(ropes, start, end, gone=()):
    """All rows of ropes from the one place to the other that come to no place twice."""
    if start == end:
        yield []
        return
    gone = gone + (start,)
    for number, (one, other, cost) in enumerate(ropes):
        if start in (one, other):
            far = other if start == one else one
            if far not in gone:
                for rest in all_ways(ropes, far, end, gone):
                    yield [number] + rest


def leads(ropes, numbers, start):
    """Where a row of ropes leads to from the start; None where it doesn't hold together."""
    place = start
    for number in numbers:
        one, other, cost = ropes[number]
        if place not in (one, other):
            return None
        place = other if place == one else one
    return place


def tiny_nets():
    """All nets of at most two places and three ropes, and of three places and two ropes."""
    for count, most in ((0, 0), (1, 3), (2, 3), (3, 2)):
        kinds = list(itertools.product(range(count), range(count), (-1, 0, 1)))
        for size in range(most + 1):
            for ropes in itertools.product(kinds, repeat=size):
                yield count, list(ropes)


def small_nets():
    """Several hundred nets, the same each time, with many ropes of the same cost."""
    source = random.Random(20)
    for turn in range(300):
        count = source.randrange(1, 7)
        ropes = []
        for size in range(source.randrange(0, 9)):
            ropes.append((source.randrange(count), source.randrange(count), source.randrange(-2, 3)))
        yield count, ropes


def small_days():
    """Some hundred days, the same each time, with wrong deeds among the others."""
    source = random.Random(31)
    for turn in range(150):
        count = source.randrange(0, 6)
        deeds = []
        for size in range(source.randrange(0, 40)):
            kind = source.choice(("lay", "lay", "cost", "cost", "cost", "look"))
            cost = source.randrange(-3, 4)
            if kind == "lay" and source.randrange(6):
                deeds.append(("lay", source.randrange(max(count, 1)), source.randrange(max(count, 1)), cost))
            elif kind == "lay":
                deeds.append(("lay", source.randrange(-1, count + 2), source.randrange(-1, count + 2), cost))
            elif kind == "cost":
                deeds.append(("cost", source.randrange(-1, len(deeds) // 2 + 2), cost))
            else:
                deeds.append(("look",))
        yield count, deeds


def large_net(count, size, figures):
    """A net that hangs together, with costs of up to so many figures and either sign."""
    source = random.Random(7)
    bound = 10 ** figures - 1
    ropes = [(place - 1, place, source.randint(-bound, bound)) for place in range(1, count)]
    while len(ropes) < size:
        ropes.append((source.randrange(count), source.randrange(count), source.randint(-bound, bound)))
    source.shuffle(ropes)
    return ropes
