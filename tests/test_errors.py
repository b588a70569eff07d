import unittest

from ropetree.errors import NoPlace, NoRope, NoTree, RopeError


class TestErrors(unittest.TestCase):
    def test_each_refusal_is_a_rope_error(self):
        self.assertEqual(RopeError.__bases__, (ValueError,))
        for kind in (NoPlace, NoRope, NoTree):
            self.assertEqual(kind.__bases__, (RopeError,))

    def test_refusals_are_told_apart(self):
        self.assertEqual(len({NoPlace, NoRope, NoTree}), 3)


if __name__ == "__main__":
    unittest.main()
