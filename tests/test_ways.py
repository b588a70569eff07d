import itertools
import unittest

from ropetree.errors import NoPlace
from ropetree.ways import best_way, groups_below
from tests.helper import all_ways, hanging, small_nets, tiny_nets

LARGE = 10 ** 100 - 1
# Two rings that share the rope from one to two, and five alone.
NET = [(0, 1, 4), (1, 2, 1), (2, 0, 3), (2, 3, 7), (3, 1, 8), (4, 3, -2), (3, 3, -9)]


class TestBestWay(unittest.TestCase):
    def test_plain(self):
        self.assertEqual(best_way(6, NET, 0, 1), ("way", [2, 1], 3))
        self.assertEqual(best_way(6, NET, 1, 0), ("way", [1, 2], 3))
        self.assertEqual(best_way(6, NET, 4, 3), ("way", [5], -2))
        numbers = best_way(6, NET, 0, 4)[1]
        self.assertIn(numbers, ([0, 1, 3, 5], [2, 3, 5]))
        self.assertEqual(best_way(6, NET, 0, 4)[2], 7)

    def test_many_cheap_ropes_rather_than_one_dear_one(self):
        ropes = [(0, 4, 10), (0, 1, 9), (1, 2, 9), (2, 3, 9), (3, 4, 9)]
        self.assertEqual(best_way(5, ropes, 4, 0), ("way", [4, 3, 2, 1], 9))

    def test_from_a_place_to_itself(self):
        for place in range(6):
            self.assertEqual(best_way(6, NET, place, place), ("way", [], None))
        self.assertEqual(best_way(1, [], 0, 0), ("way", [], None))
        self.assertEqual(best_way(1, [(0, 0, -5)], 0, 0), ("way", [], None))

    def test_the_cost_may_be_nought_or_below(self):
        self.assertEqual(best_way(2, [(0, 1, 0)], 1, 0), ("way", [0], 0))
        self.assertEqual(best_way(3, [(0, 1, -5), (1, 2, -3)], 0, 2), ("way", [0, 1], -3))

    def test_ropes_beside_one_another(self):
        self.assertEqual(best_way(2, [(0, 1, 9), (1, 0, 5), (0, 1, 7)], 0, 1), ("way", [1], 5))

    def test_costs_of_a_hundred_figures(self):
        ropes = [(0, 1, LARGE), (1, 2, LARGE - 2), (2, 0, LARGE - 1)]
        self.assertEqual(best_way(3, ropes, 0, 1), ("way", [2, 1], LARGE - 1))

    def test_wall(self):
        self.assertEqual(best_way(6, NET, 0, 5), ("wall", [0, 1, 2, 3, 4]))
        self.assertEqual(best_way(6, NET, 5, 0), ("wall", [5]))
        self.assertEqual(best_way(2, [], 1, 0), ("wall", [1]))
        self.assertEqual(best_way(2, [(0, 0, 1), (1, 1, 1)], 0, 1), ("wall", [0]))
        self.assertEqual(best_way(6, [(5, 3, 1), (3, 1, 1), (0, 4, 1)], 3, 0), ("wall", [1, 3, 5]))
        self.assertEqual(best_way(6, [(5, 3, 1), (3, 1, 1), (0, 4, 1)], 4, 5), ("wall", [0, 4]))

    def test_refuses_what_is_no_place(self):
        for wrong in (-1, -6, 6, 7, 10 ** 100, 10 ** 5000, -10 ** 5000):
            for one, other in ((wrong, 0), (0, wrong), (wrong, wrong), (wrong, 5), (5, wrong)):
                with self.assertRaises(NoPlace):
                    best_way(6, NET, one, other)

    def test_count_nought_has_no_place(self):
        with self.assertRaises(NoPlace):
            best_way(0, [], 0, 0)

    def check_way(self, ropes, one, other, answer):
        self.assertEqual(len(answer), 3)
        word, numbers, cost = answer
        self.assertEqual(word, "way")
        self.assertIs(type(numbers), list)
        ways = list(all_ways(ropes, one, other))
        self.assertIn(numbers, ways)
        if one == other:
            self.assertEqual((numbers, cost), ([], None))
        else:
            self.assertEqual(cost, max(ropes[number][2] for number in numbers))
            self.assertEqual(cost, min(max(ropes[number][2] for number in way) for way in ways))

    def test_small_nets(self):
        for count, ropes in itertools.chain(tiny_nets(), small_nets()):
            for one, other in itertools.product(range(count), repeat=2):
                with self.subTest(count=count, ropes=ropes, one=one, other=other):
                    answer = best_way(count, ropes, one, other)
                    self.assertIs(type(answer), tuple)
                    near = sorted(hanging(count, ropes, range(len(ropes)), one))
                    if other in near:
                        self.check_way(ropes, one, other, answer)
                    else:
                        self.assertEqual(answer, ("wall", near))


class TestGroupsBelow(unittest.TestCase):
    def test_below_at_and_above_costs(self):
        alone = [[0], [1], [2], [3], [4], [5]]
        self.assertEqual(groups_below(6, NET, -9), alone)
        self.assertEqual(groups_below(6, NET, -2), alone)
        self.assertEqual(groups_below(6, NET, -1), [[0], [1], [2], [3, 4], [5]])
        self.assertEqual(groups_below(6, NET, 1), [[0], [1], [2], [3, 4], [5]])
        self.assertEqual(groups_below(6, NET, 2), [[0], [1, 2], [3, 4], [5]])
        self.assertEqual(groups_below(6, NET, 3), [[0], [1, 2], [3, 4], [5]])
        self.assertEqual(groups_below(6, NET, 4), [[0, 1, 2], [3, 4], [5]])
        self.assertEqual(groups_below(6, NET, 7), [[0, 1, 2], [3, 4], [5]])
        self.assertEqual(groups_below(6, NET, 8), [[0, 1, 2, 3, 4], [5]])
        self.assertEqual(groups_below(6, NET, LARGE), [[0, 1, 2, 3, 4], [5]])

    def test_places_alone(self):
        self.assertEqual(groups_below(0, [], 5), [])
        self.assertEqual(groups_below(1, [], 5), [[0]])
        self.assertEqual(groups_below(3, [], 5), [[0], [1], [2]])
        self.assertEqual(groups_below(2, [(0, 0, 1), (1, 1, 1)], 5), [[0], [1]])

    def test_order(self):
        ropes = [(5, 2, 1), (2, 7, 1), (6, 1, 1), (4, 0, 1), (3, 6, 1)]
        self.assertEqual(groups_below(8, ropes, 2), [[0, 4], [1, 3, 6], [2, 5, 7]])

    def test_ropes_beside_one_another(self):
        self.assertEqual(groups_below(2, [(0, 1, 9), (1, 0, 5)], 6), [[0, 1]])
        self.assertEqual(groups_below(2, [(0, 1, 5), (1, 0, 9)], 6), [[0, 1]])

    def test_costs_and_bounds_of_a_hundred_figures(self):
        ropes = [(0, 1, LARGE - 1), (1, 2, -LARGE), (2, 3, LARGE)]
        self.assertEqual(groups_below(4, ropes, LARGE), [[0, 1, 2], [3]])
        self.assertEqual(groups_below(4, ropes, LARGE + 1), [[0, 1, 2, 3]])
        self.assertEqual(groups_below(4, ropes, -LARGE), [[0], [1], [2], [3]])
        self.assertEqual(groups_below(4, ropes, 1 - LARGE), [[0], [1, 2], [3]])
        self.assertEqual(groups_below(4, ropes, 10 ** 5000), [[0, 1, 2, 3]])

    def by_words(self, count, ropes, bound):
        cheap = [number for number in range(len(ropes)) if ropes[number][2] < bound]
        groups = [sorted(hanging(count, ropes, cheap, place)) for place in range(count)]
        return [group for place, group in enumerate(groups) if group[0] == place]

    def check_with_best_ways(self, count, ropes, bound, groups):
        for one, other in itertools.product(range(count), repeat=2):
            answer = best_way(count, ropes, one, other)
            near = one == other or answer[0] == "way" and answer[2] < bound
            self.assertEqual(any(one in group and other in group for group in groups), near)

    def test_small_nets(self):
        for count, ropes in itertools.chain(tiny_nets(), small_nets()):
            for bound in range(-3, 5):
                with self.subTest(count=count, ropes=ropes, bound=bound):
                    groups = groups_below(count, ropes, bound)
                    self.assertIs(type(groups), list)
                    self.assertTrue(all(type(group) is list for group in groups))
                    self.assertEqual(groups, self.by_words(count, ropes, bound))
                    self.check_with_best_ways(count, ropes, bound, groups)


if __name__ == "__main__":
    unittest.main()
