"""Points 6 to 9: what a tree tells of its pairs."""

import unittest

from redpaint.errors import NoKey, NoPlace
from redpaint.looking import (
    count_below, has_key, pair_ahead, pair_at, pair_behind, pairs_between, pairs_of, road_to, thing_of,
)
from shapes import (
    FAR, THINGS, TreeCase, flat, large_trees, leaf, low_tree, probes, sound_trees, steep_count, steep_tree, tie,
)


def all_small():
    """Every sound tree of up to seven keys, with room between the keys."""
    trees = []
    for many in range(8):
        trees.extend(sound_trees(range(-6, -6 + 2 * many, 2)))
    return trees


def far_tree():
    keys = [-FAR, -FAR + 1, -10 ** 40, -1, 0, 1, 10 ** 18, 10 ** 40, FAR - 1, FAR]
    return low_tree(keys), keys


class Case(TreeCase):

    def each_tree(self):
        """Trees small and large, and keys to look for in them."""
        for tree in all_small() + [far_tree()[0]]:
            yield tree, probes([key for key, _ in flat(tree)])
        for tree in large_trees(-3000):
            yield tree, list(range(-3002, -2950)) + [-2000, -1500, -1002, -1001, -1000, FAR]


class PairsOf(Case):

    def test_none_and_one(self):
        self.assertEqual(pairs_of(None), [])
        self.assert_pairs(pairs_of(leaf(5, "five")), [(5, "five")])

    def test_all_trees(self):
        for tree, _ in self.each_tree():
            self.assert_pairs(pairs_of(tree), flat(tree))
        tree = low_tree(range(4000))
        self.assert_pairs(pairs_of(tree), flat(tree))

    def test_keys_of_sixty_figures(self):
        tree, keys = far_tree()
        self.assertEqual([key for key, _ in pairs_of(tree)], keys)

    def test_each_answer_is_a_list_of_its_own(self):
        tree = low_tree(range(3))
        pairs_of(tree).clear()
        self.assert_pairs(pairs_of(tree), flat(tree))
        pairs_of(None).append(1)
        self.assertEqual(pairs_of(None), [])


class RoadTo(Case):

    def test_none_and_one(self):
        self.assertEqual(road_to(None, 5), [])
        for key in (4, 5, 6):
            self.assertEqual(road_to(leaf(5), key), [5])

    def test_a_known_tree(self):
        low = tie(False, leaf(1), 2, None, leaf(3))
        high = tie(False, leaf(5), 6, None, leaf(7))
        tree = tie(False, low, 4, None, high)
        roads = {0: [4, 2, 1], 1: [4, 2, 1], 2: [4, 2], 3: [4, 2, 3], 4: [4], 5: [4, 6, 5], 6: [4, 6],
                 7: [4, 6, 7], 8: [4, 6, 7]}
        for key in roads:
            self.assertEqual(road_to(tree, key), roads[key])

    def test_it_goes_no_further_than_to_a_none(self):
        tree = tie(False, (True, None, 2, None, None, 1), 4, None, None)
        self.assertEqual(road_to(tree, 5), [4])
        self.assertEqual(road_to(tree, 3), [4, 2])

    def test_all_trees(self):
        for tree, keys in self.each_tree():
            for key in keys:
                road = road_to(tree, key)
                self.assertIs(type(road), list)
                here = tree
                for met in road:
                    self.assertEqual(here[2], met)
                    ended = met == key
                    here = here[1] if key < met else here[4]
                self.assertTrue(here is None or ended)
                self.assertNotIn(key, road[:-1])

    def test_a_steep_road(self):
        keys = range(steep_count(10))
        self.assertEqual(len(road_to(steep_tree(keys, 10, True), FAR)), 20)
        self.assertEqual(len(road_to(steep_tree(keys, 10, True), -FAR)), 10)
        self.assertEqual(len(road_to(steep_tree(keys, 10, False), -FAR)), 20)


class KeysAndThings(Case):

    def test_none(self):
        self.assertIs(has_key(None, 0), False)
        self.refused(NoKey, thing_of, None, 0)

    def test_one(self):
        tree = leaf(5, "five")
        self.assertIs(has_key(tree, 5), True)
        self.assertEqual(thing_of(tree, 5), "five")
        for key in (4, 6, -5, FAR, -FAR):
            self.assertIs(has_key(tree, key), False)
            self.refused(NoKey, thing_of, tree, key)

    def test_all_trees(self):
        for tree, keys in self.each_tree():
            things = dict(flat(tree))
            for key in keys:
                self.assertIs(has_key(tree, key), key in things)
                if key in things:
                    self.assertIs(thing_of(tree, key), things[key])
                else:
                    with self.assertRaises(NoKey):
                        thing_of(tree, key)

    def test_things_that_count_as_nothing(self):
        for thing in THINGS:
            tree = tie(False, leaf(1, thing), 2, thing, leaf(3, thing))
            for key in (1, 2, 3):
                self.assertIs(thing_of(tree, key), thing)
                self.assertIs(has_key(tree, key), True)
            self.refused(NoKey, thing_of, tree, 0)
            self.refused(NoKey, thing_of, tree, 4)


class Places(Case):

    def test_none(self):
        for place in (-1, 0, 1, FAR, -FAR):
            self.refused(NoPlace, pair_at, None, place)
        for key in (-FAR, 0, FAR):
            self.assertEqual(count_below(None, key), 0)

    def test_one(self):
        tree = leaf(5, "five")
        self.assert_pair(pair_at(tree, 0), (5, "five"))
        for place in (-2, -1, 1, 2, FAR, -FAR):
            self.refused(NoPlace, pair_at, tree, place)
        self.assertEqual([count_below(tree, key) for key in (4, 5, 6)], [0, 0, 1])

    def test_all_trees(self):
        for tree, keys in self.each_tree():
            pairs = flat(tree)
            for place, pair in enumerate(pairs):
                self.assert_pair(pair_at(tree, place), pair)
            for place in (-len(pairs) - 1, -len(pairs) if pairs else -1, -1, len(pairs), len(pairs) + 1):
                self.refused(NoPlace, pair_at, tree, place)
            for key in keys:
                self.assertEqual(count_below(tree, key), sum(pair[0] < key for pair in pairs))

    def test_the_largest(self):
        tree = low_tree(range(4000))
        for place in (0, 1, 1999, 2000, 3998, 3999):
            self.assertEqual(pair_at(tree, place)[0], place)
            self.assertEqual(count_below(tree, place), place)
        self.assertEqual(count_below(tree, 4000), 4000)
        self.refused(NoPlace, pair_at, tree, 4000)


class Neighbours(Case):

    def test_none(self):
        for key in (-FAR, 0, FAR):
            self.assertIsNone(pair_ahead(None, key))
            self.assertIsNone(pair_behind(None, key))

    def test_one(self):
        tree = leaf(5, "five")
        for key, ahead, behind in ((4, None, (5, "five")), (5, None, None), (6, (5, "five"), None)):
            self.assert_pair(pair_ahead(tree, key), ahead)
            self.assert_pair(pair_behind(tree, key), behind)

    def test_all_trees(self):
        for tree, keys in self.each_tree():
            pairs = flat(tree)
            for key in keys:
                ahead = [pair for pair in pairs if pair[0] < key]
                behind = [pair for pair in pairs if pair[0] > key]
                self.assert_pair(pair_ahead(tree, key), ahead[-1] if ahead else None)
                self.assert_pair(pair_behind(tree, key), behind[0] if behind else None)


class PairsBetween(Case):

    def between(self, tree, low, high):
        return [pair for pair in flat(tree) if low <= pair[0] < high]

    def test_none(self):
        self.assertEqual(pairs_between(None, -FAR, FAR), [])
        self.assertEqual(pairs_between(None, 0, 0), [])

    def test_one(self):
        tree = leaf(5, "five")
        for low, high in ((5, 6), (4, 6), (-FAR, FAR)):
            self.assert_pairs(pairs_between(tree, low, high), [(5, "five")])
        for low, high in ((5, 5), (4, 5), (6, 7), (6, 5), (6, 4), (FAR, -FAR)):
            self.assert_pairs(pairs_between(tree, low, high), [])

    def test_all_small_trees(self):
        for tree in all_small() + [far_tree()[0]]:
            keys = probes([key for key, _ in flat(tree)])
            for low in keys:
                for high in keys:
                    self.assert_pairs(pairs_between(tree, low, high), self.between(tree, low, high))

    def test_large_trees(self):
        for tree in large_trees(-3000) + [low_tree(range(-3000, 1000))]:
            for low, high in ((-FAR, FAR), (-3000, -2999), (-2990, -2000), (-2000, -2990), (7, 7), (-1500, FAR)):
                self.assert_pairs(pairs_between(tree, low, high), self.between(tree, low, high))

    def test_each_answer_is_a_list_of_its_own(self):
        tree = low_tree(range(3))
        pairs_between(tree, 0, 3).clear()
        self.assert_pairs(pairs_between(tree, 0, 3), flat(tree))


if __name__ == "__main__":
    unittest.main()
