import itertools
import unittest

from ropetree.errors import NoRope, NoTree
from ropetree.least import dearest_tree, least_tree, total, why
from tests.helper import all_trees, cost_of, hanging, is_least, large_net, leads, rank, ring_with, small_nets, tiny_nets

LARGE = 10 ** 100 - 1
# Two rings that share the rope from one to two, and five alone.
NET = [(0, 1, 4), (1, 2, 1), (2, 0, 3), (2, 3, 7), (3, 1, 7), (4, 3, -2), (3, 3, -9)]


class TestLeastTree(unittest.TestCase):
    def test_plain(self):
        self.assertEqual(least_tree(6, NET), [1, 2, 3, 5])

    def test_no_places_and_no_ropes(self):
        self.assertEqual(least_tree(0, []), [])
        self.assertEqual(least_tree(3, []), [])

    def test_answers_from_the_least_number_to_the_greatest(self):
        self.assertEqual(least_tree(4, [(0, 1, 30), (1, 2, 20), (2, 3, 10)]), [0, 1, 2])

    def test_of_the_same_cost_the_lesser_number_is_cheaper(self):
        self.assertEqual(least_tree(2, [(0, 1, 5), (1, 0, 5), (0, 1, 5)]), [0])
        self.assertEqual(least_tree(3, [(0, 1, 5), (1, 2, 5), (2, 0, 5)]), [0, 1])
        self.assertEqual(least_tree(3, [(0, 1, 5), (1, 2, 5), (2, 0, 4)]), [0, 2])

    def test_ropes_from_a_place_to_itself_are_never_in_it(self):
        self.assertEqual(least_tree(1, [(0, 0, -5)]), [])
        self.assertEqual(least_tree(2, [(0, 0, -5), (0, 1, 5), (1, 1, -5)]), [1])

    def test_costs_below_nought(self):
        self.assertEqual(least_tree(3, [(0, 1, -1), (1, 2, -3), (2, 0, -2)]), [1, 2])

    def test_costs_of_a_hundred_figures(self):
        ropes = [(0, 1, LARGE), (1, 0, LARGE - 1), (1, 2, -LARGE + 1), (2, 1, -LARGE)]
        self.assertEqual(least_tree(3, ropes), [1, 3])
        self.assertEqual(dearest_tree(3, ropes), [0, 2])

    def test_small_nets(self):
        for count, ropes in itertools.chain(tiny_nets(), small_nets()):
            with self.subTest(count=count, ropes=ropes):
                trees = all_trees(count, ropes)
                tree = least_tree(count, ropes)
                self.assertIs(type(tree), list)
                self.assertEqual([some for some in trees if is_least(count, ropes, some)], [tree])
                self.assertEqual(cost_of(ropes, tree), min(cost_of(ropes, some) for some in trees))


class TestDearestTree(unittest.TestCase):
    def test_plain(self):
        self.assertEqual(dearest_tree(6, NET), [0, 3, 4, 5])

    def test_no_places_and_no_ropes(self):
        self.assertEqual(dearest_tree(0, []), [])
        self.assertEqual(dearest_tree(3, []), [])

    def test_of_the_same_cost_the_lesser_numbers(self):
        self.assertEqual(dearest_tree(2, [(0, 1, 5), (1, 0, 5), (0, 1, 5)]), [0])
        self.assertEqual(dearest_tree(3, [(0, 1, 5), (1, 2, 5), (2, 0, 5)]), [0, 1])
        self.assertEqual(dearest_tree(3, [(0, 1, -5), (1, 2, -5), (2, 0, -4)]), [0, 2])

    def test_small_nets(self):
        for count, ropes in itertools.chain(tiny_nets(), small_nets()):
            with self.subTest(count=count, ropes=ropes):
                trees = all_trees(count, ropes)
                tree = dearest_tree(count, ropes)
                turned = [(one, other, -cost) for one, other, cost in ropes]
                self.assertIs(type(tree), list)
                self.assertEqual([some for some in trees if is_least(count, turned, some)], [tree])
                self.assertEqual(cost_of(ropes, tree), max(cost_of(ropes, some) for some in trees))


class TestTotal(unittest.TestCase):
    def test_plain(self):
        self.assertEqual(total(6, NET, [1, 2, 3, 5]), 9)
        self.assertEqual(total(6, NET, [5, 4, 2, 0]), 12)

    def test_the_empty_tree_costs_nought(self):
        self.assertEqual(total(0, [], []), 0)
        self.assertEqual(total(3, [], []), 0)
        self.assertEqual(total(1, [(0, 0, 8)], []), 0)

    def test_costs_of_a_hundred_figures(self):
        ropes = [(0, 1, LARGE), (1, 2, LARGE), (2, 3, -LARGE)]
        self.assertEqual(total(4, ropes, [2, 0, 1]), LARGE)
        self.assertEqual(total(3, ropes[:2], [0, 1]), 2 * LARGE)

    def test_refuses_what_is_no_tree(self):
        wrong = ([], [1, 2, 3], [1, 2, 3, 5, 5], [1, 2, 5, 5], [1, 2, 3, -2], [1, 2, 3, 7], [0, 1, 2, 5], [1, 2, 3, 5, 6])
        for numbers in wrong:
            with self.subTest(numbers=numbers):
                with self.assertRaises(NoTree):
                    total(6, NET, numbers)

    def test_refuses_very_large_numbers(self):
        # Python doesn't write out numbers of so many figures, so no words may hold them.
        for large in (10 ** 5000, -10 ** 5000):
            with self.assertRaises(NoTree):
                total(6, NET, [1, 2, 3, large])

    def test_refuses_numbers_where_there_are_no_ropes(self):
        with self.assertRaises(NoTree):
            total(0, [], [0])


class TestWhy(unittest.TestCase):
    def test_in(self):
        self.assertEqual(why(6, NET, 1), ("in", [1]))
        self.assertEqual(why(6, NET, 2), ("in", [1, 2, 3, 4]))
        self.assertEqual(why(6, NET, 3), ("in", [0, 1, 2]))
        self.assertEqual(why(6, NET, 5), ("in", [4]))

    def test_in_tells_the_side_of_the_first_place(self):
        self.assertEqual(why(3, [(0, 1, 1), (1, 2, 1)], 0), ("in", [0]))
        self.assertEqual(why(3, [(1, 0, 1), (1, 2, 1)], 0), ("in", [1, 2]))

    def test_in_leaves_what_does_not_hang_together(self):
        self.assertEqual(why(4, [(0, 1, 1), (2, 3, 1)], 1), ("in", [2]))

    def test_out_tells_the_ring_from_the_first_place_to_the_second(self):
        self.assertEqual(why(6, NET, 0), ("out", [2, 1]))
        self.assertEqual(why(6, NET, 4), ("out", [3, 1]))
        self.assertEqual(why(4, [(2, 3, 1), (0, 1, 1), (2, 1, 1), (3, 0, 9)], 3), ("out", [0, 2, 1]))
        self.assertEqual(why(4, [(2, 3, 1), (0, 1, 1), (2, 1, 1), (0, 3, 9)], 3), ("out", [1, 2, 0]))

    def test_out_for_a_rope_beside_another(self):
        ropes = [(0, 1, 5), (1, 0, 5), (0, 1, 4)]
        self.assertEqual(why(2, ropes, 0), ("out", [2]))
        self.assertEqual(why(2, ropes, 1), ("out", [2]))
        self.assertEqual(why(2, ropes, 2), ("in", [0]))

    def test_out_for_a_rope_from_a_place_to_itself(self):
        self.assertEqual(why(6, NET, 6), ("out", []))
        self.assertEqual(why(1, [(0, 0, -1)], 0), ("out", []))

    def test_refuses_where_there_is_no_such_rope(self):
        for number in (7, 8, -1, -7, -8, 10 ** 100, -10 ** 100, 10 ** 5000, -10 ** 5000):
            with self.assertRaises(NoRope):
                why(6, NET, number)
        for number in (0, -1):
            with self.assertRaises(NoRope):
                why(0, [], number)

    def check_in(self, count, ropes, tree, number, places):
        rest = [kept for kept in tree if kept != number]
        self.assertEqual(places, sorted(hanging(count, ropes, rest, ropes[number][0])))
        between = [some for some in range(len(ropes)) if (ropes[some][0] in places) != (ropes[some][1] in places)]
        self.assertEqual(min(between, key=lambda some: rank(ropes, some)), number)

    def check_out(self, count, ropes, tree, number, numbers):
        one, other, cost = ropes[number]
        self.assertEqual(leads(ropes, numbers, one), other)
        self.assertEqual(sorted(numbers), ring_with(count, ropes, tree, number))
        self.assertTrue(all(rank(ropes, kept) < rank(ropes, number) for kept in numbers))

    def check_all_ropes(self, count, ropes):
        tree = least_tree(count, ropes)
        for number in range(len(ropes)):
            answer = why(count, ropes, number)
            self.assertIs(type(answer), tuple)
            self.assertIs(type(answer[1]), list)
            self.assertEqual(answer[0], "in" if number in tree else "out")
            check = self.check_in if number in tree else self.check_out
            check(count, ropes, tree, number, answer[1])

    def test_small_nets(self):
        for count, ropes in itertools.chain(tiny_nets(), small_nets()):
            with self.subTest(count=count, ropes=ropes):
                self.check_all_ropes(count, ropes)

    def test_a_larger_net_with_costs_of_a_hundred_figures(self):
        self.check_all_ropes(20, large_net(20, 60, 100))


if __name__ == "__main__":
    unittest.main()
