"""Places joined by ropes: what is no place, what leads where, and what is a tree."""

from ropetree.errors import NoPlace


def check_ropes(count, ropes):
    for rope in ropes:
        if not (0 <= rope[0] < count and 0 <= rope[1] < count):
            # The number stays out of the words: Python refuses to write out very large ones.
            raise NoPlace("no place")


# Asked ahead of each index, since Python takes an index below nought for one from the end.
def is_rope_number(ropes, number):
    return 0 <= number < len(ropes)


def is_tree(count, ropes, numbers):
    check_ropes(count, ropes)
    # All trees have as many ropes, so as many without a ring are a tree.
    if len(numbers) != len(take_ringless(count, ropes, list(range(len(ropes))))):
        return False
    if not all([is_rope_number(ropes, number) for number in numbers]):
        return False
    # This tells a number that stands twice, too: its second one joins nothing any more.
    return len(take_ringless(count, ropes, numbers)) == len(numbers)


# The order decides: of a ring's ropes the one that comes last in it is left.
def take_ringless(count, ropes, order):
    groups = list(range(count))
    taken = []
    for number in order:
        one = groups[ropes[number][0]]
        other = groups[ropes[number][1]]
        if one != other:
            groups = [one if group == other else group for group in groups]
            taken.append(number)
    return taken


# The keys are all places that hang together with the start; in a tree each way is the only one.
def ways_from(ropes, numbers, start):
    ways = {start: []}
    waiting = [start]
    while waiting:
        place = waiting.pop()
        for number in numbers:
            far = far_end(ropes[number], place)
            if far is not None and far not in ways:
                ways[far] = ways[place] + [number]
                waiting.append(far)
    return ways


def far_end(rope, place):
    if rope[0] == place:
        return rope[1]
    if rope[1] == place:
        return rope[0]
    return None
