"""Points 3 and 5: what does not hold of a tree, sound or not."""

import itertools
import unittest

from redpaint.checking import faults_of
from redpaint.knots import knot
from shapes import FAR, TreeCase, faults, large_trees, leaf, low_tree, sound_trees, steep_count, steep_tree, tie

WORDS = ("top", "paint", "roads", "order", "counts")


def red(key):
    return (True, None, key, "red", None, 1)


def counted(tree, count):
    """The tree with another count in its top knot."""
    return tree[:5] + (count,)


def chain(many, rightward, paint=False):
    """Many keys from 1 on, rising, in one row of knots, each below the one before."""
    tree = None
    for key in range(many, 0, -1) if rightward else range(1, many + 1):
        tree = tie(paint, None, key, None, tree) if rightward else tie(paint, tree, key, None, None)
    return tree


def shapes_of(many):
    """Every way in which many knots can hang together: None or a pair (left, right)."""
    if many == 0:
        return [None]
    return [(left, right) for at in range(many)
            for left in shapes_of(at) for right in shapes_of(many - 1 - at)]


def dressed(shape, paints, keys, wrongs):
    """A tree of a shape; paints, keys and errors of the counts are taken from left to right."""
    def dress(below):
        if below is None:
            return None
        left = dress(below[0])
        at = next(places)
        right = dress(below[1])
        made = tie(paints[at], left, keys[at], None, right)
        return counted(made, made[5] + wrongs[at])
    places = iter(range(len(paints)))
    return dress(shape)


def hung_at_the_left(tree, low):
    """The tree with another one in the place of the None ahead of the least key."""
    if tree is None:
        return low
    return tie(tree[0], hung_at_the_left(tree[1], low), tree[2], tree[3], tree[4])


class Case(TreeCase):

    def assert_faults(self, tree, wanted):
        given = faults_of(tree)
        self.assertIs(type(given), list)
        self.assertEqual(given, wanted)
        for word in given:
            self.assertIs(type(word), str)


class Sound(Case):

    def test_none_and_one(self):
        self.assert_faults(None, [])
        self.assert_faults(leaf(5), [])
        self.assert_faults(leaf(-FAR), [])

    def test_all_small_trees(self):
        for many in range(10):
            for tree in sound_trees(range(many)):
                self.assert_faults(tree, [])

    def test_large_trees(self):
        for tree in large_trees(-1000) + [low_tree(range(4000))]:
            self.assert_faults(tree, [])
        for rightward in (True, False):
            self.assert_faults(steep_tree(range(steep_count(10)), 10, rightward), [])

    def test_keys_of_sixty_figures(self):
        self.assert_faults(low_tree([-FAR, -FAR + 1, 0, FAR - 1, FAR]), [])

    def test_each_answer_is_a_list_of_its_own(self):
        faults_of(None).append("top")
        self.assert_faults(None, [])
        faults_of(red(1)).clear()
        self.assert_faults(red(1), ["top"])


class Top(Case):

    def test_alone(self):
        self.assert_faults(red(5), ["top"])
        self.assert_faults(tie(True, leaf(1), 2, None, leaf(3)), ["top"])
        tree = low_tree(range(1023))
        self.assert_faults((True,) + tree[1:], ["top"])

    def test_what_hangs_in_a_sound_tree_may_be_painted_at_its_top(self):
        tree = tie(False, red(1), 2, None, red(3))
        self.assert_faults(tree, [])
        self.assert_faults(tree[1], ["top"])


class Paint(Case):

    def test_alone(self):
        self.assert_faults(tie(False, tie(True, red(1), 2, None, None), 3, None, None), ["paint"])
        self.assert_faults(tie(False, tie(True, None, 1, None, red(2)), 3, None, None), ["paint"])
        self.assert_faults(tie(False, None, 1, None, tie(True, red(2), 3, None, None)), ["paint"])
        self.assert_faults(tie(False, None, 1, None, tie(True, None, 2, None, red(3))), ["paint"])

    def test_once_only_where_it_fails_often(self):
        low = tie(True, red(1), 2, None, red(3))
        high = tie(True, red(5), 6, None, red(7))
        self.assert_faults(tie(False, low, 4, None, high), ["paint"])

    def test_far_below(self):
        tree = low_tree(range(10, 1033))
        deep = tie(True, tie(True, red(1), 2, None, None), 3, None, None)
        self.assert_faults(hung_at_the_left(tree, deep), ["paint"])

    def test_the_top_knot_counts_too(self):
        self.assert_faults(tie(True, red(1), 2, None, None), ["top", "paint"])


class Roads(Case):

    def test_alone(self):
        self.assert_faults(tie(False, leaf(1), 2, None, None), ["roads"])
        self.assert_faults(tie(False, None, 1, None, leaf(2)), ["roads"])
        self.assert_faults(tie(False, leaf(1), 2, None, red(3)), ["roads"])
        self.assert_faults(tie(False, red(1), 2, None, leaf(3)), ["roads"])

    def test_the_outer_roads_alike_and_an_inner_one_not(self):
        left = tie(False, leaf(1), 2, None, red(3))
        right = tie(False, red(5), 6, None, leaf(7))
        self.assert_faults(tie(False, left, 4, None, right), ["roads"])
        left = tie(True, leaf(1), 2, None, tie(False, None, 3, None, leaf(4)))
        right = leaf(6)
        self.assert_faults(tie(False, left, 5, None, right), ["roads"])

    def test_low_on_either_side_but_at_odds(self):
        for one, other in ((3, 7), (7, 3), (1, 1023), (1023, 511)):
            tree = tie(False, low_tree(range(one)), one, None, low_tree(range(one + 1, one + 1 + other)))
            self.assert_faults(tree, ["roads"])


class Order(Case):

    def test_alone(self):
        for low, middle, high in ((2, 2, 3), (1, 2, 2), (3, 2, 1), (2, 1, 3), (1, 3, 2), (5, 5, 5)):
            self.assert_faults(tie(False, leaf(low), middle, None, leaf(high)), ["order"])

    def test_each_fits_its_parent_but_not_the_one_above(self):
        low = tie(False, leaf(1), 2, None, leaf(9))
        self.assert_faults(tie(False, low, 5, None, tie(False, leaf(6), 7, None, leaf(8))), ["order"])
        high = tie(False, leaf(4), 7, None, leaf(8))
        self.assert_faults(tie(False, tie(False, leaf(1), 2, None, leaf(3)), 5, None, high), ["order"])

    def test_a_key_twice_far_apart(self):
        for at in (0, 500, 1021):
            keys = list(range(1023))
            keys[at + 1] = keys[at]
            self.assert_faults(low_tree(keys), ["order"])
        self.assert_faults(low_tree([0] * 4000), ["order"])
        self.assert_faults(low_tree(range(4000, 0, -1)), ["order"])

    def test_keys_of_sixty_figures(self):
        self.assert_faults(tie(False, leaf(FAR - 1), FAR, None, leaf(FAR)), ["order"])
        self.assert_faults(tie(False, leaf(-FAR + 1), -FAR, None, leaf(0)), ["order"])


class Counts(Case):

    def test_alone(self):
        for count in (0, 2, -1, 1000001, -999999):
            self.assert_faults(counted(leaf(5), count), ["counts"])

    def test_at_each_knot_by_a_little_and_by_much(self):
        for wrong in (1, -1, 2, 1000, -1000, 1000000, -1000000):
            for at in range(7):
                wrongs = [wrong if here == at else 0 for here in range(7)]
                end = (None, None)
                tree = dressed(((end, end), (end, end)), [False] * 7, range(7), wrongs)
                self.assert_faults(tree, ["counts"])

    def test_a_wrong_count_told_on_upwards(self):
        low = counted(leaf(1), 3)
        self.assert_faults(knot(False, low, 2, None, leaf(3)), ["counts"])
        for many in (1000000, 3001021):
            high = counted(leaf(3), many)
            self.assert_faults(knot(False, leaf(1), 2, None, high), ["counts"])

    def test_wrong_counts_that_even_out(self):
        tree = tie(False, counted(leaf(1), 2), 2, None, counted(leaf(3), 0))
        self.assert_faults(counted(tree, 3), ["counts"])
        low, high = low_tree(range(511)), low_tree(range(512, 1023))
        tree = knot(False, counted(low, 1000511), 511, None, counted(high, -999489))
        self.assertEqual(tree[5], 1023)
        self.assert_faults(tree, ["counts"])

    def test_the_top_count_alone(self):
        tree = low_tree(range(1023))
        for wrong in (1, -1, 1000000, 3000000):
            self.assert_faults(counted(tree, 1023 + wrong), ["counts"])

    def test_a_key_twice_is_counted_twice(self):
        tree = tie(False, leaf(5), 5, None, leaf(5))
        self.assert_faults(tree, ["order"])
        self.assert_faults(counted(tree, 1), ["order", "counts"])


class Several(Case):

    def test_by_hand(self):
        both = tie(True, red(3), 2, None, leaf(1))
        self.assert_faults(both, ["top", "paint", "roads", "order"])
        self.assert_faults(counted(both, 7), list(WORDS))
        self.assert_faults(counted(red(1), 2), ["top", "counts"])
        self.assert_faults(tie(False, leaf(2), 2, None, None), ["roads", "order"])

    def test_all_trees_of_up_to_four_knots(self):
        met = set()
        for many in range(5):
            for shape in shapes_of(many):
                for tree in self.all_dressed(shape, many):
                    wanted = faults(tree)
                    met.add(tuple(wanted))
                    self.assert_faults(tree, wanted)
        self.assertEqual(len(met), 2 ** len(WORDS))

    def all_dressed(self, shape, many):
        rising = tuple(range(many))
        orders = {rising, rising[::-1], (1,) * many, rising[:-1] + rising[:1], rising[1:] + rising[-1:]}
        wrongs = [[0] * many] + [[1000000 * (here == at) for here in range(many)] for at in range(many)]
        for paints in itertools.product((False, True), repeat=many):
            for keys in sorted(orders):
                for wrong in wrongs:
                    yield dressed(shape, paints, keys, wrong)


class Chains(Case):

    def test_two_hundred_to_either_side(self):
        for many in (199, 200, 201):
            for rightward in (True, False):
                self.assert_faults(chain(many, rightward), ["roads"])
                self.assert_faults(chain(many, rightward, True), ["top", "paint"])
                side = chain(many, rightward, True)
                self.assert_faults((False,) + side[1:], ["paint"])

    def test_two_hundred_with_order_and_counts_broken(self):
        for rightward in (True, False):
            tree = chain(200, rightward)
            wrong = tree[:2] + (100,) + tree[3:]
            self.assert_faults(wrong, ["roads", "order"])
            self.assert_faults(counted(wrong, 1000200), ["roads", "order", "counts"])

    def test_the_fault_at_the_very_end(self):
        for rightward in (True, False):
            tree = red(0)
            for key in range(1, 200):
                tree = tie(False, None, -key, None, tree) if rightward else tie(False, tree, key, None, None)
            self.assert_faults(tree, ["roads"])
            tree = counted(red(0), 2)
            for key in range(1, 200):
                tree = knot(True, None, -key, None, tree) if rightward else knot(True, tree, key, None, None)
            self.assert_faults(tree, ["top", "paint", "counts"])

    def test_two_hundred_to_and_fro(self):
        tree, low, high = leaf(0), 0, 0
        for at in range(199):
            low, high = (low - 1, high) if at % 2 else (low, high + 1)
            tree = tie(False, None, low, None, tree) if at % 2 else tie(False, tree, high, None, None)
        self.assert_faults(tree, ["roads"])

    def test_two_chains_below_one_knot(self):
        low, high = chain(199, False, True), None
        for key in range(400, 201, -1):
            high = tie(True, None, key, None, high)
        self.assert_faults(tie(False, low, 200, None, high), ["paint"])
        self.assert_faults(tie(False, low, 199, None, high), ["paint", "order"])
        self.assert_faults(tie(False, high, 200, None, low), ["paint", "order"])

    def test_four_thousand_knots_below_chains(self):
        tree = low_tree(range(3900))
        for key in range(3900, 4000):
            tree = tie(False, tree, key, None, None)
        self.assert_faults(tree, ["roads"])


if __name__ == "__main__":
    unittest.main()
