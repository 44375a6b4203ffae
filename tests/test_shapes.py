"""The trees that the tests use are themselves sound, and the check sees each fault."""

import unittest

from shapes import faults, flat, large_trees, leaf, low_tree, sound_trees, steep_count, steep_tree


class TheTrees(unittest.TestCase):

    def test_all_are_sound(self):
        trees = large_trees(5)
        for many in range(9):
            trees.extend(sound_trees(range(many)))
        trees.append(low_tree(range(4000)))
        trees.append(steep_tree(range(steep_count(10)), 10, True))
        for tree in trees:
            self.assertEqual(faults(tree), [])

    def test_every_shape_is_there_once(self):
        # The number of red-black trees with an unpainted top knot.
        many = [len(sound_trees(range(keys))) for keys in range(8)]
        self.assertEqual(many[:5], [1, 1, 2, 2, 4])
        for keys in range(8):
            trees = [repr(tree) for tree in sound_trees(range(keys))]
            self.assertEqual(len(trees), len(set(trees)))

    def test_steep_is_steep(self):
        for rightward, side in ((True, 4), (False, 1)):
            here, met = steep_tree(range(steep_count(6)), 6, rightward), []
            while here is not None:
                met.append(here[0])
                here = here[side]
            self.assertEqual(met, [False, True] * 6)

    def test_low_has_its_keys(self):
        self.assertEqual([key for key, _ in flat(low_tree(range(100)))], list(range(100)))


class TheCheck(unittest.TestCase):

    def test_each_word(self):
        red = (True, None, 1, None, None, 1)
        self.assertEqual(faults(red), ["top"])
        self.assertEqual(faults((False, (True, red, 2, None, None, 2), 3, None, None, 3)), ["paint"])
        self.assertEqual(faults((False, leaf(1), 2, None, None, 2)), ["roads"])
        self.assertEqual(faults((False, leaf(2), 2, None, leaf(3), 3)), ["order"])
        self.assertEqual(faults((False, leaf(1), 2, None, leaf(3), 4)), ["counts"])
        self.assertEqual(faults(None), [])


if __name__ == "__main__":
    unittest.main()
