"""Rows of deeds on several trees, against plain sorted lists of pairs (points 1, 3, 4, 6, 10 to 14, 16)."""

import unittest

from redpaint.checking import faults_of
from redpaint.deeds import put, raised, taken
from redpaint.errors import NoKey, NotApart, NotRising
from redpaint.joining import cut_at, joined, laid
from redpaint.looking import count_below, has_key, pair_at, pairs_between, pairs_of, road_to
from redpaint.unions import common, united, without
from redpaint.walks import Walk
from shapes import FAR, THINGS, TreeCase, chance, most_met, probes

SLOTS = 4
MOST_KEYS = 4000


class Row:
    """Some trees, each beside a plain sorted list of its pairs, and deeds on them that chance chooses."""

    def __init__(self, case, seed, wide):
        self.case = case
        self.numbers = chance(seed)
        self.wide = wide
        self.slots = [(None, [])] * SLOTS
        self.past = []

    def below(self, bound):
        return next(self.numbers) % bound

    def key(self):
        key = self.below(self.wide) - self.wide // 2
        return key * (FAR // self.wide) if self.below(8) == 0 else key

    def thing(self):
        return THINGS[self.below(len(THINGS))]

    def any_slot(self):
        return self.slots[self.below(SLOTS)]

    def keep(self, tree, pairs):
        self.case.assert_tree(tree, pairs)
        self.case.assertEqual(faults_of(tree), [])
        self.past.append((tree, pairs))
        if len(pairs) <= MOST_KEYS // 2:
            self.slots[self.below(SLOTS)] = (tree, pairs)

    def put(self):
        tree, pairs = self.any_slot()
        key, thing = self.key(), self.thing()
        if pairs and self.below(3) == 0:
            key = pairs[self.below(len(pairs))][0]
        low, high = [pair for pair in pairs if pair[0] < key], [pair for pair in pairs if pair[0] > key]
        self.keep(put(tree, key, thing), low + [(key, thing)] + high)

    def taken(self):
        tree, pairs = self.any_slot()
        key = self.key()
        if pairs and self.below(4):
            key = pairs[self.below(len(pairs))][0]
        rest = [pair for pair in pairs if pair[0] != key]
        if len(rest) == len(pairs):
            self.case.refused(NoKey, taken, tree, key)
        else:
            self.keep(taken(tree, key), rest)

    def joined(self):
        (one, ones), (other, others) = self.any_slot(), self.any_slot()
        key, thing = self.key(), self.thing()
        if ones and ones[-1][0] >= key or others and others[0][0] <= key:
            self.case.refused(NotApart, joined, one, key, thing, other)
            one, ones = cut_at(one, key)[0], [pair for pair in ones if pair[0] < key]
            other, others = cut_at(other, key)[2], [pair for pair in others if pair[0] > key]
        self.keep(joined(one, key, thing, other), ones + [(key, thing)] + others)

    def laid(self):
        (one, ones), (other, others) = self.any_slot(), self.any_slot()
        key = self.key()
        if ones and others and ones[-1][0] >= others[0][0]:
            self.case.refused(NotApart, laid, one, other)
            one, ones = cut_at(one, key)[0], [pair for pair in ones if pair[0] < key]
            other, others = cut_at(other, key)[2], [pair for pair in others if pair[0] > key]
        self.keep(laid(one, other), ones + others)

    def cut(self):
        tree, pairs = self.any_slot()
        key = pairs[self.below(len(pairs))][0] if pairs and self.below(2) else self.key()
        lesser, pair, greater = cut_at(tree, key)
        here = [found for found in pairs if found[0] == key]
        self.case.assert_pair(pair, here[0] if here else None)
        self.keep(lesser, [found for found in pairs if found[0] < key])
        self.keep(greater, [found for found in pairs if found[0] > key])

    def raised(self):
        keys = sorted({self.key() for _ in range(self.below(60))})
        pairs = [(key, self.thing()) for key in keys]
        self.keep(raised(pairs), list(pairs))
        if len(pairs) > 1:
            at = self.below(len(pairs) - 1)
            pairs.insert(at + 1, pairs[at])
            self.case.refused(NotRising, raised, pairs)

    def unions(self):
        (one, ones), (other, others) = self.any_slot(), self.any_slot()
        have, hold = dict(ones), dict(others)
        both = {**hold, **have}
        deed = self.below(4)
        if deed < 2:
            self.keep(united(one, other), [(key, both[key]) for key in sorted(both)])
        elif deed == 2:
            self.keep(common(one, other), [pair for pair in ones if pair[0] in hold])
        else:
            self.keep(without(one, other), [pair for pair in ones if pair[0] not in hold])

    def look(self):
        """The road to each key and beside it, and what the other modules tell, of one tree."""
        tree, pairs = self.any_slot()
        for key in probes([pair[0] for pair in pairs]):
            self.case.assertLessEqual(len(road_to(tree, key)), most_met(len(pairs)))
        self.case.assert_pairs(pairs_of(tree), pairs)
        walk = Walk(tree)
        self.case.assert_pairs([walk.step() for _ in pairs], pairs)
        for _ in range(5):
            low, high = self.key(), self.key()
            self.case.assertEqual(count_below(tree, low), sum(key < low for key, _ in pairs))
            self.case.assertIs(has_key(tree, low), low in dict(pairs))
            self.case.assertEqual(pairs_between(tree, low, high), [pair for pair in pairs if low <= pair[0] < high])
            if pairs:
                place = self.below(len(pairs))
                self.case.assert_pair(pair_at(tree, place), pairs[place])

    def run(self, many):
        deeds = [self.put] * 12 + [self.taken] * 5 + [self.joined] * 2 + [self.laid] * 2 + [self.cut]
        deeds += [self.raised] * 2 + [self.unions] * 3 + [self.look]
        for _ in range(many):
            deeds[self.below(len(deeds))]()
        # What was there ahead of a deed is there still, as it was.
        for tree, pairs in self.past:
            self.case.assert_tree(tree, pairs)


class Rows(TreeCase):

    def test_few_keys(self):
        for seed in range(40):
            Row(self, seed, 12).run(150)

    def test_some_keys(self):
        for seed in range(8):
            Row(self, seed, 200).run(400)

    def test_many_keys(self):
        for seed in range(3):
            Row(self, seed, 10 ** 6).run(600)

    def test_up_to_four_thousand_keys(self):
        self.assertLessEqual(self.longest(put_all(range(MOST_KEYS))), most_met(MOST_KEYS))
        self.assertLessEqual(self.longest(put_all(range(MOST_KEYS, 0, -1))), most_met(MOST_KEYS))
        tree = put_all(range(0, 2 * MOST_KEYS, 2))
        for key in range(0, 2 * MOST_KEYS, 2):
            if key % 50:
                tree = taken(tree, key)
        self.assert_tree(tree, [(key, None) for key in range(0, 2 * MOST_KEYS, 50)])
        self.assertLessEqual(self.longest(tree), most_met(160))

    def longest(self, tree):
        return max(len(road_to(tree, key)) for key in range(-1, 2 * MOST_KEYS + 1))


class HowLow(TreeCase):

    def test_the_bound_by_hand(self):
        for many, most in ((0, 0), (1, 2), (2, 2), (3, 4), (6, 4), (7, 6), (1022, 18), (1023, 20), (4000, 22)):
            self.assertEqual(most_met(many), most)

    def test_each_step_of_a_row_of_puts(self):
        tree = None
        for many in range(1, 400):
            tree = put(tree, many, None)
            self.assertLessEqual(len(road_to(tree, FAR)), most_met(many))
            self.assertLessEqual(len(road_to(tree, -FAR)), most_met(many))


def put_all(keys):
    tree = None
    for key in keys:
        tree = put(tree, key, None)
    return tree


if __name__ == "__main__":
    unittest.main()
