"""Point 14, and that each tree given is sound (points 3 and 4)."""

import unittest

from redpaint.unions import common, united, without
from shapes import (
    FAR, THINGS, TreeCase, flat, large_trees, leaf, low_tree, marked, sound_trees, steep_count, steep_tree,
)


class Case(TreeCase):

    def check(self, one, other):
        before = repr((one, other))
        ones, others = flat(one), flat(other)
        have, hold = dict(ones), dict(others)
        both = {**hold, **have}
        self.assert_tree(united(one, other), [(key, both[key]) for key in sorted(both)])
        self.assert_tree(common(one, other), [pair for pair in ones if pair[0] in hold])
        self.assert_tree(without(one, other), [pair for pair in ones if pair[0] not in hold])
        self.assertEqual(repr((one, other)), before)

    def check_both_ways(self, one, other):
        one, other = marked(one, "one"), marked(other, "other")
        self.check(one, other)
        self.check(other, one)


class Unions(Case):

    def test_none(self):
        for deed in (united, common, without):
            self.assertIsNone(deed(None, None))
        for tree in (leaf(5), low_tree(range(100)), low_tree([-FAR, 0, FAR])):
            self.check_both_ways(tree, None)

    def test_one_and_one(self):
        for key in (4, 5, 6, FAR, -FAR):
            self.check_both_ways(leaf(5), leaf(key))

    def test_by_hand(self):
        one = low_tree([1, 2, 3])
        other = marked(low_tree([2, 3, 4]), "other")
        things = dict(flat(one))
        self.assertEqual(flat(united(one, other)), flat(one) + [(4, ("other", 4))])
        self.assertEqual(flat(common(one, other)), [(2, things[2]), (3, things[3])])
        self.assertEqual(flat(without(one, other)), [(1, things[1])])
        self.assertEqual(flat(without(other, one)), [(4, ("other", 4))])

    def test_one_and_many(self):
        for many in (1, 2, 3, 7, 100):
            tree = low_tree(range(0, 2 * many, 2))
            for key in (-FAR, -1, 0, 1, many, many + 1, 2 * many - 2, 2 * many - 1, FAR):
                self.check_both_ways(tree, leaf(key))

    def test_small_trees_at_every_overlap(self):
        ones = [tree for many in range(6) for tree in sound_trees(range(0, 2 * many, 2))]
        others = [tree for many in range(6) for first in range(-3, 9, 2)
                  for tree in sound_trees(range(first, first + 3 * many, 3))]
        for one in ones:
            for other in others:
                self.check(marked(one, "one"), marked(other, "other"))

    def test_all_sets_of_few_keys(self):
        trees = [low_tree([key for key in range(5) if mask >> key & 1]) for mask in range(32)]
        for one in trees:
            for other in trees:
                self.check_both_ways(one, other)

    def test_one_tree_handed_in_twice(self):
        for tree in [leaf(5), low_tree(range(4000))] + large_trees(-500):
            self.check(tree, tree)
            self.assert_tree(united(tree, tree), flat(tree))
            self.assert_tree(common(tree, tree), flat(tree))
            self.assertIsNone(without(tree, tree))

    def test_the_same_keys_with_other_things(self):
        for many in (1, 2, 10, 1000):
            self.check_both_ways(low_tree(range(many)), low_tree(range(many)))
        self.check_both_ways(steep_tree(range(62), 5, True), steep_tree(range(62), 5, False))

    def test_very_different_heights(self):
        keys = range(0, 2 * steep_count(10), 2)
        for tall in (low_tree(range(0, 7900, 2)), steep_tree(keys, 10, True), steep_tree(keys, 10, False)):
            for small in (low_tree(range(-5, 5)), low_tree([0, 1999, 2000, 4091]), low_tree([-FAR, 2046, FAR]),
                          low_tree(range(9000, 9020)), low_tree(range(-30, -1))):
                self.check_both_ways(tall, small)

    def test_large_trees(self):
        others = large_trees(0)
        for one in large_trees(-1000):
            for other in others:
                if one is None or other is None or one[5] + other[5] <= 2100:
                    self.check_both_ways(one, other)

    def test_the_largest(self):
        for one, other in ((range(0, 4000), range(0, 4000)), (range(0, 4000, 2), range(1, 4000, 2)),
                           (range(0, 2000), range(2000, 4000)), (range(0, 3000, 2), range(0, 4000, 3)),
                           (range(0, 3999), range(3999, 4000)), (range(0, 4000), range(1000, 3000))):
            self.check_both_ways(low_tree(one), low_tree(other))

    def test_keys_of_sixty_figures(self):
        ones = [-FAR, -FAR + 1, -1, 0, 10 ** 40, FAR - 1, FAR]
        others = [-FAR + 1, -FAR + 2, 0, 1, 10 ** 40, 10 ** 40 + 1, FAR]
        self.check_both_ways(low_tree(ones), low_tree(others))

    def test_things_are_handed_on_as_they_are(self):
        for thing in THINGS:
            for else_thing in THINGS:
                self.check(leaf(5, thing), leaf(5, else_thing))
                self.check(leaf(5, thing), leaf(6, else_thing))


if __name__ == "__main__":
    unittest.main()
