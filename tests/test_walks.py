"""Point 15: walks between the pairs of a tree."""

import unittest

from redpaint.deeds import put, taken
from redpaint.walks import Walk
from shapes import (
    FAR, THINGS, TreeCase, chance, flat, large_trees, leaf, low_tree, probes, sound_trees, steep_count,
    steep_tree, tie,
)


class Model:
    """A walk over a plain list of pairs."""

    def __init__(self, pairs):
        self.pairs = pairs
        self.place = 0

    def step(self):
        self.place += 1
        return self.pairs[self.place - 1] if self.place <= len(self.pairs) else self.stay(len(self.pairs))

    def back(self):
        self.place -= 1
        return self.pairs[self.place] if self.place >= 0 else self.stay(0)

    def stay(self, place):
        self.place = place

    def seek(self, key):
        self.place = len([pair for pair in self.pairs if pair[0] < key])


class Case(TreeCase):

    def assert_stands(self, walk, place):
        self.assertEqual(walk.place, place)
        self.assertIs(type(walk.place), int)

    def assert_all_forth_and_back(self, walk, pairs):
        for place, pair in enumerate(pairs):
            self.assert_stands(walk, place)
            self.assert_pair(walk.step(), pair)
        for _ in range(3):
            self.assert_stands(walk, len(pairs))
            self.assertIsNone(walk.step())
        for place in range(len(pairs), 0, -1):
            self.assert_stands(walk, place)
            self.assert_pair(walk.back(), pairs[place - 1])
        for _ in range(3):
            self.assert_stands(walk, 0)
            self.assertIsNone(walk.back())
        self.assert_stands(walk, 0)


class Alone(Case):

    def test_at_first(self):
        for tree in (None, leaf(5), low_tree(range(100))):
            walk = Walk(tree)
            self.assertIs(walk.tree, tree)
            self.assert_stands(walk, 0)

    def test_none(self):
        walk = Walk(None)
        self.assert_all_forth_and_back(walk, [])
        for key in (-FAR, 0, FAR):
            self.assertIsNone(walk.seek(key))
            self.assert_stands(walk, 0)
            self.assertIsNone(walk.step())
            self.assertIsNone(walk.back())
        self.assertIsNone(walk.tree)

    def test_one(self):
        tree = leaf(5, "five")
        walk = Walk(tree)
        self.assert_all_forth_and_back(walk, [(5, "five")])
        for key, place in ((4, 0), (5, 0), (6, 1), (5, 0), (FAR, 1), (-FAR, 0)):
            self.assertIsNone(walk.seek(key))
            self.assert_stands(walk, place)
        self.assertIs(walk.tree, tree)

    def test_all_trees_from_end_to_end(self):
        trees = [tree for many in range(8) for tree in sound_trees(range(many))]
        trees.extend(large_trees(-1000) + [low_tree(range(4000))])
        trees.extend(steep_tree(range(steep_count(10)), 10, rightward) for rightward in (True, False))
        for tree in trees:
            before, walk = repr(tree), Walk(tree)
            self.assert_all_forth_and_back(walk, flat(tree))
            self.assertIs(walk.tree, tree)
            self.assertEqual(repr(tree), before)

    def test_to_and_fro_at_each_place(self):
        tree = low_tree(range(50))
        pairs = flat(tree)
        walk = Walk(tree)
        for place, pair in enumerate(pairs):
            for _ in range(2):
                self.assert_pair(walk.step(), pair)
                self.assert_stands(walk, place + 1)
                self.assert_pair(walk.back(), pair)
                self.assert_stands(walk, place)
            walk.step()

    def test_things_that_count_as_nothing(self):
        for thing in THINGS:
            tree = tie(False, leaf(1, thing), 2, thing, leaf(3, thing))
            self.assert_all_forth_and_back(Walk(tree), [(1, thing), (2, thing), (3, thing)])


class Seek(Case):

    def check(self, tree, keys):
        """Seek each key from wherever the walk stands, and look to either side."""
        pairs = flat(tree)
        walk = Walk(tree)
        for key in keys:
            self.assertIsNone(walk.seek(key))
            place = len([pair for pair in pairs if pair[0] < key])
            self.assert_stands(walk, place)
            self.assertIs(walk.tree, tree)
            self.assert_pair(walk.step(), pairs[place] if place < len(pairs) else None)
            walk.seek(key)
            self.assert_stands(walk, place)
            self.assert_pair(walk.back(), pairs[place - 1] if place > 0 else None)

    def test_forwards_backwards_and_beyond(self):
        trees = [tree for many in range(7) for tree in sound_trees(range(0, 3 * many, 3))]
        for tree in trees + [low_tree([-FAR, -FAR + 2, 0, 10 ** 40, FAR - 2, FAR])]:
            keys = probes([key for key, _ in flat(tree)])
            self.check(tree, keys)
            self.check(tree, keys[::-1])
            self.check(tree, keys[::2] + keys[::-3] + keys[1::2])

    def test_large_trees(self):
        for tree in large_trees(-1000) + [low_tree(range(-2000, 2000))]:
            self.check(tree, [0, -1000, -1001, FAR, -999, -FAR, -500, -900, -2, 300, 2000, 1999, -2000, 1998])

    def test_it_may_go_on_from_there(self):
        walk = Walk(low_tree(range(0, 200, 2)))
        walk.seek(101)
        self.assertEqual([walk.step()[0] for _ in range(3)], [102, 104, 106])
        walk.seek(100)
        self.assertEqual(walk.step()[0], 100)
        walk.seek(7)
        self.assertEqual([walk.back()[0] for _ in range(4)], [6, 4, 2, 0])
        self.assertIsNone(walk.back())
        walk.seek(FAR)
        self.assertIsNone(walk.step())
        self.assertEqual(walk.back()[0], 198)
        walk.seek(-FAR)
        self.assertIsNone(walk.back())
        self.assertEqual(walk.step()[0], 0)

    def test_the_place_it_has_is_kept(self):
        walk = Walk(low_tree(range(10)))
        for _ in range(4):
            walk.step()
        for _ in range(3):
            walk.seek(4)
            self.assert_stands(walk, 4)


class Several(Case):

    def test_two_of_one_tree_by_turns(self):
        tree = low_tree(range(100))
        pairs = flat(tree)
        one, other = Walk(tree), Walk(tree)
        other.seek(FAR)
        for place in range(100):
            self.assert_pair(one.step(), pairs[place])
            self.assert_pair(other.back(), pairs[99 - place])
            self.assert_stands(one, place + 1)
            self.assert_stands(other, 99 - place)
        self.assertIsNone(one.step())
        self.assertIsNone(other.back())
        other.seek(50)
        self.assert_stands(one, 100)
        self.assert_stands(other, 50)

    def test_many_against_plain_lists(self):
        numbers = chance(15)
        for tree in large_trees(-1000) + [tree for many in range(6) for tree in sound_trees(range(many))]:
            pairs = flat(tree)
            rows = [(Walk(tree), Model(pairs)) for _ in range(3)]
            for _ in range(150):
                walk, model = rows[next(numbers) % 3]
                deed = next(numbers) % 5
                if deed == 0:
                    key = next(numbers) % (len(pairs) + 4) - 1002
                    self.assertIsNone(walk.seek(key))
                    model.seek(key)
                elif deed < 3:
                    self.assert_pair(walk.step(), model.step())
                else:
                    self.assert_pair(walk.back(), model.back())
                for walk, model in rows:
                    self.assert_stands(walk, model.place)
                    self.assertIs(walk.tree, tree)

    def test_deeds_do_not_disturb_a_walk(self):
        tree = low_tree(range(20))
        pairs = flat(tree)
        walk = Walk(tree)
        grown = tree
        for key in range(20):
            self.assert_pair(walk.step(), pairs[key])
            grown = put(taken(grown, key), -key - 1, "other")
        self.assertIsNone(walk.step())
        self.assertIs(walk.tree, tree)
        self.assertEqual(Walk(grown).step(), (-20, "other"))


if __name__ == "__main__":
    unittest.main()
