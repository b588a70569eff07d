"""The sizes that are promised, and that nothing handed in is changed or kept."""

import time
import unittest

from ropetree.least import dearest_tree, least_tree, total, why
from ropetree.nets import is_tree
from tests.helper import large_net

COUNT = 100
SIZE = 1000
# Far more than is needed, so that a slow machine passes and a search through all trees doesn't.
SECONDS = 30


class TestSizes(unittest.TestCase):
    def setUp(self):
        self.begin = time.monotonic()

    def tearDown(self):
        self.assertLess(time.monotonic() - self.begin, SECONDS)

    def test_trees(self):
        ropes = large_net(COUNT, SIZE, 100)
        least = least_tree(COUNT, ropes)
        dearest = dearest_tree(COUNT, ropes)
        self.assertEqual([len(least), len(dearest)], [COUNT - 1, COUNT - 1])
        self.assertIs(is_tree(COUNT, ropes, least), True)
        self.assertIs(is_tree(COUNT, ropes, dearest), True)
        self.assertIs(is_tree(COUNT, ropes, list(range(SIZE))), False)
        self.assertLess(total(COUNT, ropes, least), total(COUNT, ropes, dearest))

    def test_why_of_every_rope(self):
        ropes = large_net(COUNT, SIZE, 100)
        told = [why(COUNT, ropes, number)[0] for number in range(SIZE)]
        self.assertEqual(told.count("in"), COUNT - 1)

    def test_one_long_row(self):
        ropes = [(place, place + 1, 1) for place in range(COUNT - 1)] + [(COUNT - 1, 0, 1)] * (SIZE - COUNT + 1)
        self.assertEqual(why(COUNT, ropes, SIZE - 1), ("out", list(reversed(range(COUNT - 1)))))
        self.assertEqual(why(COUNT, ropes, COUNT - 2), ("in", list(range(COUNT - 1))))

    def test_somewhat_beyond(self):
        count = 2 * COUNT
        ropes = [(place, place + 1, -10 ** 150) for place in range(count - 1)] + [(count - 1, 0, 1)] * (2 * SIZE)
        self.assertEqual(least_tree(count, ropes), list(range(count - 1)))
        self.assertEqual(why(count, ropes, len(ropes) - 1), ("out", list(reversed(range(count - 1)))))


class TestHandedIn(unittest.TestCase):
    ropes = ((0, 1, 4), (1, 2, 1), (2, 0, 3), (1, 1, 0))

    def asked(self, ropes, numbers):
        return [is_tree(3, ropes, numbers), least_tree(3, ropes), dearest_tree(3, ropes), total(3, ropes, numbers),
                why(3, ropes, 1), why(3, ropes, 0), why(3, ropes, 3)]

    def test_stays_as_it_was(self):
        ropes = list(self.ropes)
        numbers = [2, 1]
        self.asked(ropes, numbers)
        self.assertEqual(ropes, list(self.ropes))
        self.assertEqual(numbers, [2, 1])

    def test_is_not_kept(self):
        ropes = list(self.ropes)
        numbers = [2, 1]
        answers = self.asked(ropes, numbers)
        words = repr(answers)
        ropes[1] = (1, 2, 9)
        ropes.append((0, 2, -5))
        numbers.clear()
        self.assertEqual(repr(answers), words)
        self.assertEqual(least_tree(3, ropes), [0, 4])

    def test_a_changed_answer_changes_nothing(self):
        ropes = list(self.ropes)
        answers = self.asked(ropes, [2, 1])
        words = repr(answers)
        for answer in (answers[1], answers[2], answers[4][1], answers[5][1], answers[6][1]):
            answer.append(77)
        self.assertEqual(repr(self.asked(ropes, [2, 1])), words)


if __name__ == "__main__":
    unittest.main()
