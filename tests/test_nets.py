import itertools
import unittest

from ropetree.errors import NoPlace
from ropetree.least import dearest_tree, least_tree, total, why
from ropetree.nets import is_tree
from ropetree.other import second_tree, steps_to
from ropetree.ways import best_way, groups_below
from tests.helper import small_nets, tiny_nets, tree_by_words

# A ring of nought, one and two, a rope to three, and four alone.
RING = [(0, 1, 5), (1, 2, 5), (2, 0, 5), (2, 3, 5)]

ASKED = (
    ("is_tree", lambda count, ropes: is_tree(count, ropes, [])),
    ("is_tree with numbers of no ropes", lambda count, ropes: is_tree(count, ropes, [-1, 99, 99])),
    ("least_tree", least_tree),
    ("dearest_tree", dearest_tree),
    ("total ahead of NoTree", lambda count, ropes: total(count, ropes, [99])),
    ("total", lambda count, ropes: total(count, ropes, [0])),
    ("why", lambda count, ropes: why(count, ropes, 0)),
    ("why ahead of NoRope", lambda count, ropes: why(count, ropes, 99)),
    ("why ahead of NoRope below nought", lambda count, ropes: why(count, ropes, -1)),
    ("why ahead of NoRope for a very large number", lambda count, ropes: why(count, ropes, 10 ** 5000)),
    ("second_tree", second_tree),
    ("steps_to", lambda count, ropes: steps_to(count, ropes, [0], [0])),
    ("steps_to ahead of NoTree", lambda count, ropes: steps_to(count, ropes, [], [])),
    ("steps_to ahead of NoTree of the first", lambda count, ropes: steps_to(count, ropes, [-1, 99], [0])),
    ("steps_to ahead of NoTree of the second", lambda count, ropes: steps_to(count, ropes, [0], [99, 10 ** 5000])),
    ("best_way", lambda count, ropes: best_way(count, ropes, 0, 1)),
    ("best_way from a place to itself", lambda count, ropes: best_way(count, ropes, 0, 0)),
    ("best_way with what is no place", lambda count, ropes: best_way(count, ropes, -1, 99)),
    ("groups_below", lambda count, ropes: groups_below(count, ropes, 5)),
    ("groups_below that leaves the rope", lambda count, ropes: groups_below(count, ropes, -5)),
)


class TestNoPlace(unittest.TestCase):
    def refused(self, count, ropes):
        for name, ask in ASKED:
            with self.subTest(name):
                with self.assertRaises(NoPlace):
                    ask(count, ropes)

    def test_below_nought(self):
        self.refused(2, [(-1, 0, 1)])
        self.refused(2, [(0, -1, 1)])
        self.refused(2, [(-2, -2, 1)])

    def test_no_less_than_count(self):
        self.refused(2, [(2, 0, 1)])
        self.refused(2, [(0, 2, 1)])
        self.refused(2, [(3, 1, 1)])
        self.refused(2, [(2, 2, 1)])

    def test_very_large(self):
        self.refused(2, [(10 ** 5000, 0, 1)])
        self.refused(2, [(0, -10 ** 5000, 1)])

    def test_any_rope_of_the_list(self):
        self.refused(2, [(0, 1, 1), (0, 0, 1), (1, 2, 1)])
        self.refused(2, [(0, 1, 1), (-1, 0, 1), (1, 0, 1)])

    def test_count_nought_has_no_place(self):
        self.refused(0, [(0, 0, 1)])

    def test_the_first_and_the_last_place_are_places(self):
        self.assertIs(is_tree(3, [(0, 2, 1), (2, 1, 1)], [0, 1]), True)


class TestIsTree(unittest.TestCase):
    def test_no_places(self):
        self.assertIs(is_tree(0, [], []), True)
        self.assertIs(is_tree(0, [], [0]), False)

    def test_no_ropes(self):
        self.assertIs(is_tree(4, [], []), True)
        self.assertIs(is_tree(4, [], [0]), False)
        self.assertIs(is_tree(4, [], [-1]), False)

    def test_any_order_of_numbers(self):
        for numbers in itertools.permutations([0, 1, 3]):
            self.assertIs(is_tree(5, RING, list(numbers)), True)

    def test_a_number_gone(self):
        for numbers in ([0, 1], [0, 3], [1, 3], [3], []):
            self.assertIs(is_tree(5, RING, numbers), False)

    def test_a_number_twice(self):
        for numbers in ([0, 0, 3], [0, 1, 3, 3], [3, 0, 1, 3], [0, 1, 1], [3, 3, 3]):
            self.assertIs(is_tree(5, RING, numbers), False)

    def test_a_number_below_nought(self):
        # Counted from the end these would be trees.
        for numbers in ([0, 1, -1], [-4, 1, 3], [-1, -3, -4]):
            self.assertIs(is_tree(5, RING, numbers), False)

    def test_the_count_of_ropes_and_beyond(self):
        for numbers in ([0, 1, 4], [0, 1, 5], [0, 1, 3, 4], [4]):
            self.assertIs(is_tree(5, RING, numbers), False)

    def test_very_large_numbers(self):
        for large in (10 ** 100, -10 ** 100, 10 ** 5000, -10 ** 5000):
            self.assertIs(is_tree(5, RING, [0, 1, large]), False)
            self.assertIs(is_tree(5, RING, [0, 1, 3, large]), False)

    def test_a_ring(self):
        self.assertIs(is_tree(5, RING, [0, 1, 2]), False)
        self.assertIs(is_tree(5, RING, [0, 1, 2, 3]), False)
        self.assertIs(is_tree(3, RING[:3], [0, 1, 2]), False)

    def test_a_rope_from_a_place_to_itself_is_a_ring(self):
        self.assertIs(is_tree(1, [(0, 0, 1)], [0]), False)
        self.assertIs(is_tree(1, [(0, 0, 1)], []), True)
        self.assertIs(is_tree(2, [(1, 1, 1), (0, 1, 1)], [0]), False)
        self.assertIs(is_tree(2, [(1, 1, 1), (0, 1, 1)], [1]), True)
        self.assertIs(is_tree(2, [(1, 1, 1), (0, 1, 1)], [0, 1]), False)

    def test_two_ropes_between_the_same_places_are_a_ring(self):
        ropes = [(0, 1, 1), (1, 0, 1), (0, 1, 1)]
        for number in range(3):
            self.assertIs(is_tree(2, ropes, [number]), True)
        for numbers in ([0, 1], [0, 2], [1, 2], [0, 1, 2], []):
            self.assertIs(is_tree(2, ropes, numbers), False)

    def test_places_that_do_not_all_hang_together(self):
        ropes = [(0, 1, 1), (2, 3, 1), (3, 4, 1), (4, 2, 1)]
        self.assertIs(is_tree(7, ropes, [3, 0, 1]), True)
        self.assertIs(is_tree(7, ropes, [1, 2, 3]), False)
        self.assertIs(is_tree(7, ropes, [1, 2]), False)
        self.assertIs(is_tree(7, ropes, [0]), False)

    def test_all_choices_of_small_nets(self):
        for count, ropes in itertools.chain(tiny_nets(), small_nets()):
            for size in range(count + 1):
                for some in itertools.combinations(range(len(ropes)), size):
                    asked = list(reversed(some))
                    self.assertIs(is_tree(count, ropes, asked), tree_by_words(count, ropes, some), (count, ropes, some))


if __name__ == "__main__":
    unittest.main()
