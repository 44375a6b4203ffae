"""Points 11 and 12, and that each tree given is sound (points 3 and 4)."""

import unittest

from redpaint.errors import NotApart
from redpaint.joining import cut_at, joined, laid
from shapes import (
    FAR, THINGS, TreeCase, faults, flat, large_trees, leaf, low_tree, sound_trees, steep_count, steep_tree,
)

SMALL = 7


def small_trees(first, step=1):
    """Every sound tree of up to SMALL keys, which rise from first on."""
    trees = []
    for many in range(SMALL + 1):
        trees.extend(sound_trees(range(first, first + step * many, step)))
    return trees


class Case(TreeCase):

    def assert_cut(self, tree, key):
        before = repr(tree)
        cut = cut_at(tree, key)
        self.assertIs(type(cut), tuple)
        self.assertEqual(len(cut), 3)
        lesser, pair, greater = cut
        pairs = flat(tree)
        self.assert_tree(lesser, [found for found in pairs if found[0] < key])
        self.assert_tree(greater, [found for found in pairs if found[0] > key])
        here = [found for found in pairs if found[0] == key]
        self.assertEqual(pair, here[0] if here else None)
        if here:
            self.assertIs(type(pair), tuple)
            self.assertIs(pair[1], here[0][1])
        self.assertEqual(repr(tree), before)

    def check_joined(self, one, key, thing, other):
        before = repr((one, other))
        tree = joined(one, key, thing, other)
        self.assert_tree(tree, flat(one) + [(key, thing)] + flat(other))
        self.assertEqual(repr((one, other)), before)

    def check_laid(self, one, other):
        before = repr((one, other))
        tree = laid(one, other)
        self.assert_tree(tree, flat(one) + flat(other))
        self.assertEqual(repr((one, other)), before)


class Joined(Case):

    def test_none_and_one(self):
        self.check_joined(None, 5, "five", None)
        self.check_joined(leaf(4), 5, "five", None)
        self.check_joined(None, 5, "five", leaf(6))
        self.check_joined(leaf(4), 5, "five", leaf(6))

    def test_all_small_trees(self):
        for one in small_trees(-20):
            for other in small_trees(1):
                self.check_joined(one, 0, "between", other)

    def test_large_trees_either_way(self):
        highs = large_trees(10)
        for one in large_trees(-4000):
            for other in highs:
                if one is None or other is None or one[5] + other[5] < 4000:
                    self.check_joined(one, 9, "between", other)

    def test_very_different_heights(self):
        keys = range(steep_count(10))
        for tall in (low_tree(range(3998)), steep_tree(keys, 10, True), steep_tree(keys, 10, False)):
            for small in (None, leaf(FAR), low_tree(range(9000, 9009))):
                self.check_joined(tall, 8000, None, small)
            for small in (None, leaf(-FAR), low_tree(range(-9, -1))):
                self.check_joined(small, -1, None, tall)

    def test_one_key_after_another(self):
        rising = falling = None
        for key in range(600):
            rising = joined(rising, key, THINGS[key % 10], None)
            falling = joined(None, -key, THINGS[key % 10], falling)
            self.assertEqual(faults(rising), [])
            self.assertEqual(faults(falling), [])
        self.assert_tree(rising, [(key, THINGS[key % 10]) for key in range(600)])
        self.assert_tree(falling, [(-key, THINGS[key % 10]) for key in range(599, -1, -1)])

    def test_things_are_handed_on_as_they_are(self):
        for thing in THINGS:
            self.check_joined(leaf(1, thing), 2, thing, leaf(3, thing))

    def test_keys_of_sixty_figures(self):
        self.check_joined(leaf(-FAR), -FAR + 1, "x", leaf(FAR))
        self.check_joined(leaf(-FAR), FAR - 1, "x", leaf(FAR))
        self.check_joined(leaf(-FAR), 0, "x", None)

    def test_refused_just_where_keys_are_not_apart(self):
        for one in (None, leaf(4), low_tree(range(0, 5)), steep_tree(range(-9, 5), 3, True)):
            for other in (None, leaf(6), low_tree(range(6, 9)), steep_tree(range(6, 20), 3, False)):
                for key in range(-11, 23):
                    if (one is None or key > 4) and (other is None or key < 6):
                        self.check_joined(one, key, "x", other)
                    else:
                        self.refused(NotApart, joined, one, key, "x", other)

    def test_refused_by_one_key_alone(self):
        self.refused(NotApart, joined, leaf(5), 5, "x", None)
        self.refused(NotApart, joined, leaf(6), 5, "x", None)
        self.refused(NotApart, joined, None, 5, "x", leaf(5))
        self.refused(NotApart, joined, None, 5, "x", leaf(4))
        self.refused(NotApart, joined, low_tree(range(4000)), 3999, "x", None)
        self.refused(NotApart, joined, None, 0, "x", low_tree(range(3999)))
        self.refused(NotApart, joined, leaf(FAR), FAR, "x", None)
        self.refused(NotApart, joined, None, -FAR, "x", leaf(-FAR))
        self.refused(NotApart, joined, leaf(9), 5, "x", leaf(1))


class Laid(Case):

    def test_none_and_one(self):
        self.assertIsNone(laid(None, None))
        self.check_laid(leaf(4), None)
        self.check_laid(None, leaf(6))
        self.check_laid(leaf(4), leaf(6))

    def test_all_small_trees(self):
        for one in small_trees(-20):
            for other in small_trees(0):
                self.check_laid(one, other)

    def test_large_trees_either_way(self):
        highs = large_trees(10)
        for one in large_trees(-4000):
            for other in highs:
                if one is None or other is None or one[5] + other[5] <= 4000:
                    self.check_laid(one, other)

    def test_very_different_heights(self):
        keys = range(steep_count(10))
        for tall in (low_tree(range(3991)), steep_tree(keys, 10, True), steep_tree(keys, 10, False)):
            for small in (None, leaf(FAR), low_tree(range(9000, 9009))):
                self.check_laid(tall, small)
            for small in (None, leaf(-FAR), low_tree(range(-9, 0))):
                self.check_laid(small, tall)

    def test_keys_of_sixty_figures(self):
        self.check_laid(leaf(-FAR), leaf(FAR))
        self.check_laid(leaf(FAR - 1), leaf(FAR))
        self.refused(NotApart, laid, leaf(FAR), leaf(FAR))
        self.refused(NotApart, laid, leaf(FAR), leaf(-FAR))

    def test_refused_just_where_keys_are_not_apart(self):
        for many in range(1, 6):
            for one in sound_trees(range(many)):
                for first in range(-7, many + 2):
                    for other in sound_trees(range(first, first + 4)):
                        if first >= many:
                            self.check_laid(one, other)
                        else:
                            self.refused(NotApart, laid, one, other)

    def test_refused_with_itself(self):
        for many in (1, 2, 3, 1000):
            tree = low_tree(range(many))
            self.refused(NotApart, laid, tree, tree)


class CutAt(Case):

    def test_none_and_one(self):
        for key in (-FAR, 0, FAR):
            self.assertEqual(cut_at(None, key), (None, None, None))
        for key in (-FAR, 4, 5, 6, FAR):
            self.assert_cut(leaf(5, "five"), key)

    def test_all_small_trees_at_all_keys(self):
        for many in range(10):
            for tree in sound_trees(range(0, 2 * many, 2)):
                for key in range(-2, 2 * many + 2):
                    self.assert_cut(tree, key)

    def test_large_trees_at_keys_all_over(self):
        for tree in large_trees(0):
            last = tree[5] - 1 if tree else 0
            keys = {-FAR, -1, 0, 1, last - 1, last, last + 1, FAR, last // 2, last // 3}
            keys.update(range(0, last, 1 + last // 40))
            for key in sorted(keys):
                self.assert_cut(tree, key)

    def test_the_largest(self):
        for tree in (low_tree(range(0, 8000, 2)), steep_tree(range(0, 4092, 2), 10, True),
                     steep_tree(range(0, 4092, 2), 10, False)):
            for key in (-1, 0, 1, 2, 2047, 2048, 4090, 4091, 7998, 7999, 8000):
                self.assert_cut(tree, key)

    def test_keys_of_sixty_figures(self):
        keys = [-FAR, -FAR + 1, -1, 0, 10 ** 40, FAR - 1, FAR]
        for key in keys + [-FAR + 2, 10 ** 40 + 1, FAR - 2]:
            self.assert_cut(low_tree(keys), key)

    def test_things_are_handed_on_as_they_are(self):
        for thing in THINGS:
            tree = joined(leaf(1, thing), 2, thing, leaf(3, thing))
            for key in range(5):
                self.assert_cut(tree, key)

    def test_what_is_cut_is_joined_again(self):
        tree = low_tree(range(2000))
        for key in range(0, 2000, 37):
            lesser, pair, greater = cut_at(tree, key)
            self.check_joined(lesser, pair[0], pair[1], greater)
            self.check_laid(lesser, greater)


if __name__ == "__main__":
    unittest.main()
