"""Places joined by ropes: what is no place, what leads where, what it costs, and what is a tree."""

from ropetree.errors import NoPlace


def check_places(count, places):
    for place in places:
        if not 0 <= place < count:
            # The number stays out of the words: Python refuses to write out very large ones.
            raise NoPlace("no place")


def check_ropes(count, ropes):
    check_places(count, [rope[0] for rope in ropes] + [rope[1] for rope in ropes])


# Asked ahead of each index, since Python takes an index below nought for one from the end.
def is_rope_number(ropes, number):
    return 0 <= number < len(ropes)


def is_tree(count, ropes, numbers):
    check_ropes(count, ropes)
    # All trees have as many ropes, so as many without a ring are a tree.
    if len(numbers) != len(take_ringless(count, ropes, list(range(len(ropes))))):
        return False
    if not all([is_rope_number(ropes, number) for number in numbers]):
        return False
    # This tells a number that stands twice, too: its second one joins nothing any more.
    return len(take_ringless(count, ropes, numbers)) == len(numbers)


def cost_of(ropes, numbers):
    return sum([ropes[number][2] for number in numbers])


# Of ropes that cost the same the one with the lesser number is cheaper.
def from_cheapest(ropes):
    return sorted(range(len(ropes)), key=lambda number: (ropes[number][2], number))


# The order decides: of a ring's ropes the one that comes last in it is left.
def take_ringless(count, ropes, order):
    groups = list(range(count))
    taken = []
    for number in order:
        one = groups[ropes[number][0]]
        other = groups[ropes[number][1]]
        if one != other:
            groups = [one if group == other else group for group in groups]
            taken.append(number)
    return taken


# The keys are all places that hang together with the start; in a tree each way is the only one.
def ways_from(ropes, numbers, start):
    ways = {start: []}
    waiting = [start]
    while waiting:
        place = waiting.pop()
        for number in numbers:
            far = far_end(ropes[number], place)
            if far is not None and far not in ways:
                ways[far] = ways[place] + [number]
                waiting.append(far)
    return ways


def far_end(rope, place):
    if rope[0] == place:
        return rope[1]
    if rope[1] == place:
        return rope[0]
    return None
