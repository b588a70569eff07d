import itertools
import unittest

from ropetree.errors import NoTree
from ropetree.least import dearest_tree, least_tree
from ropetree.nets import is_tree
from ropetree.other import second_tree, steps_to
from tests.helper import all_trees, cost_of, is_least, large_net, small_nets, tiny_nets

LARGE = 10 ** 100 - 1
# Two rings that share the rope from one to two, and five alone.
NET = [(0, 1, 4), (1, 2, 1), (2, 0, 3), (2, 3, 7), (3, 1, 7), (4, 3, -2), (3, 3, -9)]
# A ring of nought, one and two, a rope to three, and four alone.
RING = [(0, 1, 5), (1, 2, 5), (2, 0, 5), (2, 3, 5)]


class TestSecondTree(unittest.TestCase):
    def test_no_other_tree(self):
        self.assertIsNone(second_tree(0, []))
        self.assertIsNone(second_tree(1, []))
        self.assertIsNone(second_tree(4, []))
        self.assertIsNone(second_tree(2, [(0, 1, 3)]))
        self.assertIsNone(second_tree(5, [(0, 1, 3), (4, 3, -1), (1, 2, 3)]))

    def test_ropes_from_a_place_to_itself_make_no_other_tree(self):
        self.assertIsNone(second_tree(1, [(0, 0, 1)]))
        self.assertIsNone(second_tree(1, [(0, 0, -1), (0, 0, -1)]))
        self.assertIsNone(second_tree(3, [(0, 0, -1), (0, 1, 3), (1, 1, -9), (2, 1, 3), (1, 1, 9)]))

    def test_plain(self):
        # Rope four in the place of rope three costs nothing more, rope nought in the place of rope two does.
        self.assertEqual(second_tree(6, NET), ([1, 2, 4, 5], 9))
        self.assertEqual(second_tree(3, [(0, 1, 4), (1, 2, 1), (2, 0, 3)]), ([0, 1], 5))
        self.assertEqual(second_tree(4, [(0, 1, 1), (1, 2, 2), (2, 3, 9), (3, 1, 11), (2, 0, 5)]), ([0, 1, 3], 14))

    def test_the_second_of_ropes_beside_one_another(self):
        self.assertEqual(second_tree(2, [(0, 1, 9), (1, 0, 5), (0, 1, 7)]), ([2], 7))

    def test_numbers_rise(self):
        ropes = [(0, 1, 30), (1, 2, 20), (2, 3, 10), (3, 0, 40)]
        self.assertEqual(second_tree(4, ropes), ([1, 2, 3], 70))

    def test_equal_costs(self):
        self.assertEqual(second_tree(2, [(0, 1, 5), (1, 0, 5)]), ([1], 5))
        numbers, cost = second_tree(5, RING)
        self.assertIn(numbers, ([0, 2, 3], [1, 2, 3]))
        self.assertEqual(cost, 15)

    def test_costs_below_nought(self):
        self.assertEqual(second_tree(3, [(0, 1, -1), (1, 2, -3), (2, 0, -2)]), ([0, 1], -4))

    def test_costs_of_a_hundred_figures(self):
        self.assertEqual(second_tree(2, [(0, 1, LARGE), (1, 0, LARGE - 1)]), ([0], LARGE))
        ropes = [(0, 1, -LARGE), (1, 2, -LARGE), (0, 1, -LARGE + 2), (1, 2, -LARGE + 1)]
        self.assertEqual(second_tree(3, ropes), ([0, 3], 1 - 2 * LARGE))

    def test_a_ring_beside_places_that_do_not_hang_together_with_it(self):
        ropes = [(4, 5, 1), (0, 1, 2), (1, 2, 3), (2, 0, 7)]
        self.assertEqual(second_tree(6, ropes), ([0, 1, 3], 10))

    def test_small_nets(self):
        for count, ropes in itertools.chain(tiny_nets(), small_nets()):
            with self.subTest(count=count, ropes=ropes):
                others = [tree for tree in all_trees(count, ropes) if not is_least(count, ropes, tree)]
                answer = second_tree(count, ropes)
                if not others:
                    self.assertIsNone(answer)
                    continue
                self.assertIs(type(answer), tuple)
                numbers, cost = answer
                self.assertIs(type(numbers), list)
                self.assertIn(numbers, others)
                self.assertEqual(cost, cost_of(ropes, numbers))
                self.assertEqual(cost, min(cost_of(ropes, tree) for tree in others))


class TestStepsTo(unittest.TestCase):
    def test_plain(self):
        self.assertEqual(steps_to(5, RING, [0, 1, 3], [0, 2, 3]), [(1, 2)])
        self.assertEqual(steps_to(5, RING, [3, 2, 1], [3, 1, 0]), [(2, 0)])
        self.assertEqual(steps_to(2, [(0, 1, 5), (1, 0, 5), (0, 1, 4)], [1], [2]), [(1, 2)])

    def test_only_a_rope_of_the_ring_goes_out(self):
        ropes = [(0, 1, 1), (0, 1, 1), (1, 2, 1), (1, 2, 1), (2, 3, 1), (2, 3, 1)]
        self.assertEqual(sorted(steps_to(4, ropes, [0, 2, 4], [5, 3, 1])), [(0, 1), (2, 3), (4, 5)])

    def test_a_rope_of_both_trees_stays(self):
        # The ring that rope four makes holds ropes nought and one, which the other tree has too.
        ropes = [(0, 1, 1), (1, 2, 1), (2, 3, 1), (3, 4, 1), (4, 0, 1)]
        self.assertEqual(steps_to(5, ropes, [0, 1, 2, 3], [0, 1, 2, 4]), [(3, 4)])
        self.assertEqual(steps_to(5, ropes, [0, 1, 2, 3], [4, 3, 2, 1]), [(0, 4)])

    def test_no_steps_to_itself(self):
        self.assertEqual(steps_to(0, [], [], []), [])
        self.assertEqual(steps_to(3, [], [], []), [])
        self.assertEqual(steps_to(1, [(0, 0, 5)], [], []), [])
        for one, other in itertools.product(itertools.permutations([0, 1, 3]), repeat=2):
            self.assertEqual(steps_to(5, RING, list(one), list(other)), [])

    def test_refuses_what_is_no_tree(self):
        tree = [0, 1, 3]
        wrong = ([], [0, 1], [0, 1, 2], [0, 1, 3, 3], [0, 1, 2, 3], [0, 0, 3], [0, 1, -1], [0, 1, 4], [-4, 1, 3],
                 [0, 1, 10 ** 5000], [0, 1, -10 ** 5000])
        for numbers in wrong:
            for one, other in ((tree, numbers), (numbers, tree), (numbers, numbers), (numbers, wrong[0])):
                with self.assertRaises(NoTree):
                    steps_to(5, RING, one, other)

    def test_refuses_ropes_from_a_place_to_itself(self):
        for one, other in (([0], [1]), ([1], [0]), ([0], [0])):
            with self.assertRaises(NoTree):
                steps_to(2, [(0, 0, 1), (0, 1, 1)], one, other)

    def test_refuses_numbers_where_there_are_no_ropes(self):
        for one, other in (([0], []), ([], [0])):
            with self.assertRaises(NoTree):
                steps_to(0, [], one, other)

    def check(self, one, other, steps, is_a_tree):
        self.assertIs(type(steps), list)
        self.assertEqual(len(steps), len(set(one) - set(other)))
        tree = set(one)
        for step in steps:
            self.assertIs(type(step), tuple)
            out, into = step
            self.assertIn(out, tree)
            self.assertNotIn(into, tree)
            tree = tree - {out} | {into}
            self.assertTrue(is_a_tree(tree))
        self.assertEqual(tree, set(other))

    def test_any_two_trees_of_small_nets(self):
        for count, ropes in itertools.chain(tiny_nets(), itertools.islice(small_nets(), 150)):
            trees = all_trees(count, ropes)
            known = {frozenset(tree) for tree in trees}
            for one, other in itertools.product(trees, repeat=2):
                with self.subTest(count=count, ropes=ropes, one=one, other=other):
                    steps = steps_to(count, ropes, one, list(reversed(other)))
                    self.check(one, other, steps, lambda tree: frozenset(tree) in known)

    def test_a_larger_net(self):
        ropes = large_net(40, 200, 100)
        least, dearest = least_tree(40, ropes), dearest_tree(40, ropes)
        for one, other in ((least, dearest), (dearest, least)):
            self.check(one, other, steps_to(40, ropes, one, other), lambda tree: is_tree(40, ropes, list(tree)))


if __name__ == "__main__":
    unittest.main()
