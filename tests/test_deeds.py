"""Points 10 and 13, and that each tree given is sound (points 3 and 4)."""

import unittest

from redpaint.deeds import put, raised, taken
from redpaint.errors import NoKey, NotRising
from redpaint.looking import thing_of
from shapes import (
    FAR, THINGS, TreeCase, flat, large_trees, leaf, low_tree, probes, sound_trees, steep_count, steep_tree,
    thing_for,
)

NEW = ("new", (None, "thing"))
FAR_KEYS = [-FAR, -FAR + 1, -10 ** 40, -1, 0, 1, 10 ** 18, 10 ** 40, FAR - 1, FAR]


def tall_trees():
    """The largest trees, low and steep, with room between the keys."""
    keys = range(0, 2 * steep_count(10), 2)
    return [low_tree(range(0, 7998, 2)), steep_tree(keys, 10, True), steep_tree(keys, 10, False)]


def rows_of_keys():
    """Keys in several orders."""
    rows = [list(range(300)), list(range(300, 0, -1)), [key * 173 % 307 for key in range(1, 307)]]
    rows.append([key // 2 if key % 2 else -key for key in range(200)])
    rows.append([key if key % 2 else 1000 - key for key in range(200)])
    return rows


class Put(TreeCase):

    def check(self, tree, key, thing):
        before, pairs = repr(tree), flat(tree)
        wanted = [pair for pair in pairs if pair[0] < key] + [(key, thing)]
        wanted.extend(pair for pair in pairs if pair[0] > key)
        self.assert_tree(put(tree, key, thing), wanted)
        self.assertEqual(repr(tree), before)

    def test_none_and_one(self):
        for key in (0, 5, -5, FAR, -FAR):
            self.check(None, key, "five")
        for key in (4, 5, 6, FAR, -FAR):
            self.check(leaf(5, "old"), key, "new")

    def test_all_small_trees_at_all_keys(self):
        for many in range(8):
            for tree in sound_trees(range(0, 2 * many, 2)):
                for key in range(-2, 2 * many + 2):
                    self.check(tree, key, NEW)

    def test_large_trees(self):
        for tree in large_trees(-1000):
            for key in (-FAR, -1001, -1000, -999, -990, -501, -500, -3, 0, 22, 1022, FAR):
                self.check(tree, key, NEW)

    def test_the_largest(self):
        for tree in tall_trees():
            for key in (-1, 0, 1, 2, 2047, 2048, 4089, 4090, 4091, 7995, 7996, 7997):
                self.check(tree, key, NEW)

    def test_keys_of_sixty_figures(self):
        tree = low_tree(FAR_KEYS)
        for key in probes(FAR_KEYS):
            self.check(tree, key, NEW)

    def test_the_new_thing_takes_the_place_of_the_old_one(self):
        for old in THINGS:
            for new in THINGS:
                tree = leaf(5, old)
                self.assertIs(thing_of(put(tree, 5, new), 5), new)
                self.assertIs(thing_of(tree, 5), old)

    def test_things_are_handed_on_as_they_are(self):
        for thing in THINGS:
            self.check(None, 1, thing)
            self.check(leaf(1, thing), 2, thing)
            self.check(low_tree(range(9)), 4, thing)

    def test_one_after_another(self):
        for keys in rows_of_keys():
            tree, things = None, {}
            for key in keys:
                tree = put(tree, key, thing_for(key))
                things[key] = thing_for(key)
                self.assert_tree(tree, sorted(things.items(), key=lambda pair: pair[0]))
            for key in keys:
                tree = put(tree, key, NEW)
            self.assert_tree(tree, [(key, NEW) for key in sorted(things)])

    def test_four_thousand(self):
        for step in (1, -1, 1777):
            tree = None
            for at in range(4000):
                tree = put(tree, at * step % 4000, thing_for(at * step % 4000))
            self.assert_tree(tree, [(key, thing_for(key)) for key in range(4000)])


class Taken(TreeCase):

    def check(self, tree, key):
        before, pairs = repr(tree), flat(tree)
        wanted = [pair for pair in pairs if pair[0] != key]
        if len(wanted) == len(pairs):
            self.refused(NoKey, taken, tree, key)
        else:
            self.assert_tree(taken(tree, key), wanted)
        self.assertEqual(repr(tree), before)

    def test_none_and_one(self):
        for key in (0, 5, -5, FAR, -FAR):
            self.refused(NoKey, taken, None, key)
        for key in (4, 6, -5, FAR, -FAR):
            self.refused(NoKey, taken, leaf(5), key)
        self.assertIsNone(taken(leaf(5), 5))

    def test_all_small_trees_at_all_keys(self):
        for many in range(9):
            for tree in sound_trees(range(0, 2 * many, 2)):
                for key in range(-2, 2 * many + 2):
                    self.check(tree, key)

    def test_large_trees(self):
        for tree in large_trees(-1000):
            for key in (-FAR, -1001, -1000, -999, -990, -501, -500, -3, 0, 22, 1022, FAR):
                self.check(tree, key)

    def test_the_largest(self):
        for tree in tall_trees() + [low_tree(range(0, 8000, 2))]:
            for key in (-1, 0, 1, 2, 2047, 2048, 4089, 4090, 4091, 7995, 7996, 7998, 7999, 8000):
                self.check(tree, key)

    def test_keys_of_sixty_figures(self):
        tree = low_tree(FAR_KEYS)
        for key in probes(FAR_KEYS):
            self.check(tree, key)

    def test_things_that_count_as_nothing(self):
        for thing in THINGS:
            self.assertIsNone(taken(leaf(1, thing), 1))
            tree = low_tree(range(9))
            self.check(put(tree, 4, thing), 4)
            self.check(put(tree, 4, thing), 5)

    def test_until_none_is_left(self):
        for keys in rows_of_keys():
            left = {key: thing_for(key) for key in keys}
            tree = low_tree(sorted(left))
            for key in list(left):
                tree = taken(tree, key)
                del left[key]
                self.assert_tree(tree, sorted(left.items(), key=lambda pair: pair[0]))
                self.refused(NoKey, taken, tree, key)
            self.assertIsNone(tree)

    def test_four_thousand(self):
        for step in (1, -1, 1777):
            tree = low_tree(range(4000))
            for at in range(4000):
                tree = taken(tree, at * step % 4000)
            self.assertIsNone(tree)

    def test_what_was_put_is_taken_again(self):
        for tree in large_trees(1):
            for key in (0, -FAR, FAR):
                self.assert_tree(taken(put(tree, key, NEW), key), flat(tree))


class Raised(TreeCase):

    def check(self, pairs):
        before = list(pairs)
        tree = raised(pairs)
        self.assert_tree(tree, before)
        self.assert_pairs(pairs, before)

    def check_refused(self, pairs):
        before = list(pairs)
        self.refused(NotRising, raised, pairs)
        self.assert_pairs(pairs, before)

    def test_none_and_one(self):
        self.assertIsNone(raised([]))
        for key in (0, 5, -5, FAR, -FAR):
            self.check([(key, "five")])

    def test_lists_of_every_length(self):
        for many in range(530):
            self.check([(3 * key - 700, thing_for(key)) for key in range(many)])
        for many in (1022, 1023, 1024, 2046, 2047, 2048, 3999, 4000):
            self.check([(key, thing_for(key)) for key in range(many)])

    def test_things_are_handed_on_as_they_are(self):
        for thing in THINGS:
            self.check([(1, thing)])
            self.check([(1, thing), (2, None), (3, thing)])

    def test_keys_of_sixty_figures(self):
        self.check([(key, key) for key in FAR_KEYS])
        self.check_refused([(FAR, 1), (FAR, 1)])
        self.check_refused([(FAR, 1), (FAR - 1, 1)])
        self.check_refused([(-FAR + 1, 1), (-FAR, 1)])

    def test_two_pairs_with_one_key(self):
        self.check_refused([(5, "one"), (5, "other")])
        self.check_refused([(5, None), (5, None)])
        self.check_refused([(0, "one"), (0, "other")])

    def test_refused_just_where_the_keys_do_not_rise(self):
        for keys in ((1, 2), (2, 1), (1, 1), (1, 2, 3), (1, 3, 2), (3, 1, 2), (2, 1, 3), (1, 1, 2), (1, 2, 2),
                     (3, 2, 1), (1, 2, 1), (2, 3, 1), (-1, -2), (-2, -1), (0, -1), (-1, 0)):
            pairs = [(key, thing_for(key)) for key in keys]
            if sorted(set(keys)) == list(keys):
                self.check(pairs)
            else:
                self.check_refused(pairs)

    def test_refused_wherever_in_the_list(self):
        for many in (2, 3, 4, 7, 8, 100):
            for at in range(1, many):
                pairs = [(2 * key, "x") for key in range(many)]
                for less in (2, 3, 2 * many):
                    wrong = list(pairs)
                    wrong[at] = (2 * at - less, "x")
                    self.check_refused(wrong)
        self.check_refused([(key, "x") for key in range(3999)] + [(3998, "x")])
        self.check_refused([(0, "x")] + [(key, "x") for key in range(3999)])

    def test_the_list_may_change_behind_it(self):
        pairs = [(key, key) for key in range(20)]
        tree = raised(pairs)
        pairs[3] = (FAR, None)
        pairs.clear()
        self.assert_tree(tree, [(key, key) for key in range(20)])

    def test_what_was_raised_takes_further_deeds(self):
        for many in (1, 2, 3, 6, 100):
            tree = raised([(2 * key, "x") for key in range(many)])
            for key in range(-1, 2 * many):
                grown = put(tree, key, "y")
                wanted = sorted({2 * at for at in range(many)} | {key})
                self.assert_tree(grown, [(at, "y" if at == key else "x") for at in wanted])


if __name__ == "__main__":
    unittest.main()
