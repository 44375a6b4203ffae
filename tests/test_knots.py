"""Point 2: what a knot is made of; it is made of any trees, sound or not."""

import unittest

from redpaint.knots import knot, size_of
from shapes import FAR, THINGS, leaf, low_tree


class Knot(unittest.TestCase):

    def assert_same(self, given, wanted):
        self.assertEqual(given, wanted)
        self.assertIs(type(given), tuple)
        self.assertIs(type(given[5]), int)

    def test_alone(self):
        self.assert_same(knot(False, None, 5, "five", None), (False, None, 5, "five", None, 1))
        self.assert_same(knot(True, None, 5, "five", None), (True, None, 5, "five", None, 1))

    def test_the_order_of_the_six(self):
        left, right = leaf(1), leaf(9)
        made = knot(False, left, 5, "five", right)
        self.assert_same(made, (False, left, 5, "five", right, 3))
        self.assertIs(made[0], False)
        self.assertIs(knot(True, left, 5, "five", right)[0], True)
        self.assertIs(made[1], left)
        self.assertIs(made[4], right)

    def test_one_side_alone(self):
        self.assert_same(knot(False, leaf(1), 5, None, None), (False, leaf(1), 5, None, None, 2))
        self.assert_same(knot(False, None, 5, None, leaf(9)), (False, None, 5, None, leaf(9), 2))

    def test_a_thing_is_handed_on_as_it_is(self):
        for thing in THINGS + (FAR, -FAR, "a" * 5000, leaf(1)):
            self.assertIs(knot(False, None, 1, thing, None)[3], thing)

    def test_keys_of_sixty_figures(self):
        for key in (FAR, -FAR, 0, -1):
            self.assertEqual(knot(True, None, key, None, None)[2], key)

    def test_counts_as_they_stand_when_wrong(self):
        for many, more in ((0, 0), (7, 0), (3, 1500000), (1000000, 1)):
            left = (False, None, 1, None, None, many)
            right = (False, None, 9, None, None, more)
            self.assertEqual(knot(False, left, 5, None, right)[5], many + more + 1)
        self.assertEqual(knot(False, (False, None, 1, None, None, 40), 5, None, None)[5], 41)
        self.assertEqual(knot(False, None, 5, None, (False, None, 9, None, None, 40))[5], 41)

    def test_unsound_trees_are_taken(self):
        red = (True, None, 9, None, None, 1)
        made = knot(True, red, 3, "t", red)
        self.assert_same(made, (True, red, 3, "t", red, 3))
        self.assert_same(knot(False, made, 1, "u", None), (False, made, 1, "u", None, 4))

    def test_a_long_road(self):
        tree = None
        for key in range(4000):
            tree = knot(True, None, key, None, tree)
        self.assertEqual(tree[5], 4000)
        self.assertEqual(size_of(tree), 4000)


class SizeOf(unittest.TestCase):

    def test_none(self):
        self.assertEqual(size_of(None), 0)

    def test_sound_trees(self):
        self.assertEqual(size_of(leaf(3)), 1)
        for many in (1, 2, 3, 10, 500, 4000):
            self.assertEqual(size_of(low_tree(range(many))), many)

    def test_the_top_count_is_taken_right_or_wrong(self):
        for many in (0, 1, 2, 77, 3001023):
            self.assertEqual(size_of((True, leaf(1), 0, None, None, many)), many)


if __name__ == "__main__":
    unittest.main()
