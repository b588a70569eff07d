"""A day: ropes come, costs change, and what that does to the least tree."""

from ropetree.errors import NoPlace, NoRope
from ropetree.least import least_tree
from ropetree.nets import check_places, cost_of, is_rope_number


class Net:
    def __init__(self, count):
        self.place_count = count
        self.ropes = []
        self.tree = []

    def lay(self, one, other, cost):
        # Ahead of any change, because what is refused changes nothing.
        check_places(self.place_count, [one, other])
        self.ropes.append((one, other, cost))
        before = self.renew()
        return (len(self.ropes) - 1, only_in(before, self.tree), self.cost())

    def recost(self, number, cost):
        if not is_rope_number(self.ropes, number):
            raise NoRope("no rope")
        rope = self.ropes[number]
        self.ropes[number] = (rope[0], rope[1], cost)
        before = self.renew()
        return (exchange(before, self.tree), self.cost())

    # Who asks gets a list of their own, which no later deed changes.
    def look(self):
        return list(self.tree)

    def cost(self):
        return cost_of(self.ropes, self.tree)

    # Gives back the tree as it was, to tell what changed.
    def renew(self):
        before = self.tree
        self.tree = least_tree(self.place_count, self.ropes)
        return before


# One rope that came or changed puts at most one other out of the least tree.
def only_in(one, other):
    rest = [number for number in one if number not in other]
    return rest[0] if rest else None


def exchange(before, after):
    out = only_in(before, after)
    return None if out is None else (out, only_in(after, before))


def answers(count, deeds):
    net = Net(count)
    return [answer(net, deed) for deed in deeds]


def answer(net, deed):
    try:
        return do_deed(net, deed)
    except NoPlace:
        return "no place"
    except NoRope:
        return "no rope"


def do_deed(net, deed):
    if deed[0] == "lay":
        return net.lay(deed[1], deed[2], deed[3])
    if deed[0] == "cost":
        return net.recost(deed[1], deed[2])
    return net.look()
