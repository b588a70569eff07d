"""The sizes that are promised, and that nothing handed in is changed or kept."""

import time
import unittest

from ropetree.changing import Net, answers
from ropetree.least import dearest_tree, least_tree, total, why
from ropetree.nets import is_tree
from ropetree.other import second_tree, steps_to
from ropetree.ways import best_way, groups_below
from tests.helper import large_net

COUNT = 100
SIZE = 1000
# Far more than is needed, so that a slow machine passes and a search through all trees doesn't.
SECONDS = 30


class TestSizes(unittest.TestCase):
    def setUp(self):
        self.begin = time.monotonic()

    def tearDown(self):
        self.assertLess(time.monotonic() - self.begin, SECONDS)

    def test_trees(self):
        ropes = large_net(COUNT, SIZE, 100)
        least = least_tree(COUNT, ropes)
        dearest = dearest_tree(COUNT, ropes)
        self.assertEqual([len(least), len(dearest)], [COUNT - 1, COUNT - 1])
        self.assertIs(is_tree(COUNT, ropes, least), True)
        self.assertIs(is_tree(COUNT, ropes, dearest), True)
        self.assertIs(is_tree(COUNT, ropes, list(range(SIZE))), False)
        self.assertLess(total(COUNT, ropes, least), total(COUNT, ropes, dearest))

    def test_why_of_every_rope(self):
        ropes = large_net(COUNT, SIZE, 100)
        told = [why(COUNT, ropes, number)[0] for number in range(SIZE)]
        self.assertEqual(told.count("in"), COUNT - 1)

    def test_other_trees(self):
        ropes = large_net(COUNT, SIZE, 100)
        least = least_tree(COUNT, ropes)
        numbers, cost = second_tree(COUNT, ropes)
        self.assertIs(is_tree(COUNT, ropes, numbers), True)
        self.assertEqual(cost, total(COUNT, ropes, numbers))
        self.assertGreater(cost, total(COUNT, ropes, least))
        dearest = dearest_tree(COUNT, ropes)
        self.assertEqual(len(steps_to(COUNT, ropes, least, dearest)), len(set(least) - set(dearest)))

    def test_best_ways_between_all_places(self):
        ropes = large_net(COUNT, SIZE, 100)
        for one in range(COUNT):
            for other in range(one, COUNT, 10):
                self.assertEqual(best_way(COUNT, ropes, one, other)[0], "way")

    def test_groups_below_many_bounds(self):
        ropes = large_net(COUNT, SIZE, 100)
        bounds = sorted(rope[2] for rope in ropes)
        told = [len(groups_below(COUNT, ropes, bound)) for bound in bounds[::10] + [bounds[-1] + 1]]
        self.assertEqual(told, sorted(told, reverse=True))
        self.assertEqual([told[0], told[-1]], [COUNT, 1])

    def test_a_day_of_ropes(self):
        ropes = large_net(COUNT, SIZE, 100)
        told = answers(COUNT, [("lay",) + rope for rope in ropes])
        self.assertEqual([answer[0] for answer in told], list(range(SIZE)))
        self.assertEqual(told[-1][2], total(COUNT, ropes, least_tree(COUNT, ropes)))

    def test_a_day_of_costs_and_looks(self):
        ropes = large_net(COUNT, SIZE // 2, 100)
        costs = [("cost", number, -ropes[number][2]) for number in range(SIZE // 2)]
        told = answers(COUNT, [("lay",) + rope for rope in ropes] + costs[:-1] + [("look",)] + costs[-1:])
        turned = [(one, other, -cost) for one, other, cost in ropes]
        self.assertEqual(told[-2], least_tree(COUNT, turned[:-1] + ropes[-1:]))
        self.assertEqual(told[-1][1], total(COUNT, turned, least_tree(COUNT, turned)))

    def test_a_day_somewhat_beyond(self):
        net = Net(2 * COUNT)
        for place in range(2 * COUNT - 1):
            net.lay(place, place + 1, 10 ** 150)
        for turn in range(SIZE):
            self.assertIsNone(net.lay(2 * COUNT - 1, 0, 10 ** 150)[1])
        self.assertEqual(net.recost(0, 10 ** 150 + 1)[0], (0, 2 * COUNT - 1))

    def test_one_long_row(self):
        ropes = [(place, place + 1, 1) for place in range(COUNT - 1)] + [(COUNT - 1, 0, 1)] * (SIZE - COUNT + 1)
        self.assertEqual(why(COUNT, ropes, SIZE - 1), ("out", list(reversed(range(COUNT - 1)))))
        self.assertEqual(why(COUNT, ropes, COUNT - 2), ("in", list(range(COUNT - 1))))
        self.assertEqual(best_way(COUNT, ropes[:COUNT - 1], COUNT - 1, 0), ("way", list(reversed(range(COUNT - 1))), 1))
        self.assertEqual(groups_below(COUNT, ropes, 2), [list(range(COUNT))])

    def test_somewhat_beyond(self):
        count = 2 * COUNT
        ropes = [(place, place + 1, -10 ** 150) for place in range(count - 1)] + [(count - 1, 0, 1)] * (2 * SIZE)
        self.assertEqual(least_tree(count, ropes), list(range(count - 1)))
        self.assertEqual(why(count, ropes, len(ropes) - 1), ("out", list(reversed(range(count - 1)))))


class TestHandedIn(unittest.TestCase):
    ropes = ((0, 1, 4), (1, 2, 1), (2, 0, 3), (1, 1, 0))
    deeds = (("lay", 0, 1, 4), ("lay", 1, 0, 3), ("look",), ("cost", 0, 1), ("look",), ("lay", 9, 0, 1), ("cost", 9, 1))

    def setUp(self):
        self.given = [list(self.ropes), [2, 1], [0, 1], list(self.deeds)]

    def asked(self):
        ropes, numbers, others, deeds = self.given
        return [is_tree(3, ropes, numbers), least_tree(3, ropes), dearest_tree(3, ropes), total(3, ropes, numbers),
                why(3, ropes, 1), why(3, ropes, 0), why(3, ropes, 3), second_tree(3, ropes),
                steps_to(3, ropes, numbers, others), best_way(3, ropes, 0, 1), best_way(3, ropes, 0, 0),
                best_way(4, ropes, 0, 3), groups_below(4, ropes, 4), answers(3, deeds)]

    def lists_in(self, answer):
        found = [answer] if isinstance(answer, list) else []
        for part in answer if isinstance(answer, (list, tuple)) else []:
            found.extend(self.lists_in(part))
        return found

    def test_stays_as_it_was(self):
        words = repr(self.given)
        self.asked()
        self.assertEqual(repr(self.given), words)

    def test_is_not_kept(self):
        answers_told = self.asked()
        words = repr(answers_told)
        ropes, numbers, others, deeds = self.given
        ropes[1] = (1, 2, 9)
        ropes.append((0, 2, -5))
        for given in (numbers, others, deeds):
            given.clear()
        self.assertEqual(repr(answers_told), words)
        self.assertEqual(least_tree(3, ropes), [0, 4])
        self.assertEqual(answers(3, deeds), [])

    def test_a_changed_answer_changes_nothing(self):
        answers_told = self.asked()
        words = repr(answers_told)
        lists = self.lists_in(answers_told)
        self.assertEqual(len({id(some) for some in lists}), len(lists))
        given = repr(self.given)
        for some in lists:
            some.append(77)
        self.assertEqual(repr(self.given), given)
        self.assertEqual(repr(self.asked()), words)


if __name__ == "__main__":
    unittest.main()
