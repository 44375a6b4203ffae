"""Trees to test with, and a check of them that owes nothing to the package.

Trees are built here as plain tuples, so that a fault of the package does not
hide in what it is tested with.
"""

import unittest

from redpaint.errors import TreeError

FAR = 10 ** 60 - 1
THINGS = (None, True, False, 0, 1, -7, "", "a text\nof\tlines", (), (None, (True, (1, "x"))))


def tie(paint, left, key, thing, right):
    count = 1 + (left[5] if left else 0) + (right[5] if right else 0)
    return (paint, left, key, thing, right, count)


def thing_for(key):
    return THINGS[key % len(THINGS)]


def leaf(key, thing="leaf"):
    return (False, None, key, thing, None, 1)


def flat(tree):
    """All pairs of a tree, from left to right."""
    if tree is None:
        return []
    return flat(tree[1]) + [(tree[2], tree[3])] + flat(tree[4])


def faults(tree):
    """Those of the five words of point 3 that do not hold of a tree."""
    broken = set()
    if tree is not None and tree[0]:
        broken.add("top")
    _survey(tree, broken)
    keys = [key for key, _ in flat(tree)]
    if any(one >= other for one, other in zip(keys, keys[1:])):
        broken.add("order")
    return [word for word in ("top", "paint", "roads", "order", "counts") if word in broken]


def _survey(tree, broken):
    """How many keys and how many unpainted knots on a road there are."""
    if tree is None:
        return 0, 0
    assert type(tree) is tuple and len(tree) == 6, tree
    paint, left, key, _, right, count = tree
    assert type(paint) is bool and type(key) is int and type(count) is int, tree
    many_left, high_left = _survey(left, broken)
    many_right, high_right = _survey(right, broken)
    if paint and any(child is not None and child[0] for child in (left, right)):
        broken.add("paint")
    if high_left != high_right:
        broken.add("roads")
    if count != many_left + 1 + many_right:
        broken.add("counts")
    return many_left + 1 + many_right, high_left + (not paint)


def depth(tree):
    """How many knots there are on the longest road of a tree."""
    if tree is None:
        return 0
    return 1 + max(depth(tree[1]), depth(tree[4]))


def most_met(many):
    """How many keys the road to any key has at most in a sound tree of many keys (point 16)."""
    return 2 * len(bin(many + 1)[2:]) - 2


def probes(keys):
    """Each key, one less and one more, and keys far off at either end."""
    found = {0, -FAR, FAR}
    for key in keys:
        found.update((key - 1, key, key + 1))
    return sorted(found)


def marked(tree, mark):
    """The tree of the same shape whose things tell of the mark and the key."""
    if tree is None:
        return None
    paint, left, key, _, right, count = tree
    return (paint, marked(left, mark), key, (mark, key), marked(right, mark), count)


def chance(seed):
    """A row of numbers without end; it is the same one each time."""
    while True:
        seed = (seed * 6364136223846793005 + 1442695040888963407) % 2 ** 64
        yield seed >> 33


class TreeCase(unittest.TestCase):
    """What the tests of several modules ask."""

    def refused(self, error, deed, *given):
        for kind in (error, TreeError, ValueError):
            with self.assertRaises(kind) as caught:
                deed(*given)
            self.assertIs(type(caught.exception), error)

    def assert_pair(self, given, wanted):
        self.assertEqual(given, wanted)
        if wanted is not None:
            self.assertIs(type(given), tuple)
            self.assertIs(given[1], wanted[1])

    def assert_pairs(self, given, wanted):
        self.assertIs(type(given), list)
        self.assertEqual([key for key, _ in given], [key for key, _ in wanted])
        for one, other in zip(given, wanted):
            self.assert_pair(one, other)

    def assert_tree(self, tree, pairs):
        """The tree is sound, is as low as point 16 says, and has these pairs."""
        self.assertEqual(faults(tree), [])
        self.assert_pairs(flat(tree), pairs)
        self.assertLessEqual(depth(tree), most_met(len(pairs)))


def sound_trees(keys):
    """Every sound tree with these keys."""
    found = []
    for height in range(len(keys) + 1):
        found.extend(_shapes(tuple(keys), height, False))
    return found


def _shapes(keys, height, painted):
    """Every tree of a height whose top knot is painted as told, but sound else."""
    if not keys:
        return [None] if height == 0 and not painted else []
    below = height if painted else height - 1
    if below < 0:
        return []
    found = []
    for at, key in enumerate(keys):
        for left in _below(keys[:at], below, painted):
            for right in _below(keys[at + 1:], below, painted):
                found.append(tie(painted, left, key, thing_for(key), right))
    return found


def _below(keys, height, painted):
    plain = _shapes(keys, height, False)
    return plain if painted else plain + _shapes(keys, height, True)


def low_tree(keys):
    """The lowest sound tree of these keys: only its deepest knots are painted."""
    whole = (len(keys) + 1).bit_length() - 1
    return _low(list(keys), whole)


def _low(keys, whole):
    if not keys:
        return None
    middle = len(keys) // 2
    left, right = _low(keys[:middle], whole - 1), _low(keys[middle + 1:], whole - 1)
    return tie(whole == 0, left, keys[middle], thing_for(keys[middle]), right)


def steep_count(height):
    """How many keys steep_tree has."""
    return 2 ** (height + 1) - 2


def steep_tree(keys, height, rightward):
    """The sound tree whose road at one side is as long as can be: each second knot is painted."""
    keys = list(keys)
    assert len(keys) == steep_count(height)
    if height == 0:
        return None
    bush = 2 ** (height - 1) - 1
    if rightward:
        near = steep_tree(keys[2 * bush + 2:], height - 1, True)
        red = _tied(True, low_tree(keys[bush + 1:2 * bush + 1]), keys[2 * bush + 1], near)
        return _tied(False, low_tree(keys[:bush]), keys[bush], red)
    rest = len(keys) - 2 * bush - 2
    near = steep_tree(keys[:rest], height - 1, False)
    red = _tied(True, near, keys[rest], low_tree(keys[rest + 1:rest + 1 + bush]))
    return _tied(False, red, keys[rest + 1 + bush], low_tree(keys[rest + 2 + bush:]))


def _tied(paint, left, key, right):
    return tie(paint, left, key, thing_for(key), right)


def large_trees(first):
    """Sound trees of very different heights; their keys rise from first on."""
    trees = [low_tree(range(first, first + many)) for many in (0, 1, 2, 3, 7, 100, 1023, 1999)]
    for height in (1, 3, 6, 9):
        keys = range(first, first + steep_count(height))
        trees.append(steep_tree(keys, height, True))
        trees.append(steep_tree(keys, height, False))
    return trees
