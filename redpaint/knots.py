"""The knots that a tree is made of.

A tree is None or a knot: a tuple of its paint, the tree on its left, its key,
its thing, the tree on its right, and its count.
"""

# Where each of the six things stands in a knot.
PAINT = 0
LEFT = 1
KEY = 2
THING = 3
RIGHT = 4
COUNT = 5


def knot(paint, left, key, thing, right):
    """The knot of these, with the count that the counts of both trees make."""
    return (paint, left, key, thing, right, size_of(left) + 1 + size_of(right))


def size_of(tree):
    """How many keys the tree has, as its top knot tells."""
    if tree is None:
        return 0
    return tree[COUNT]


def pair_of(top):
    """The pair (key, thing) of a knot."""
    return (top[KEY], top[THING])


def is_painted(tree):
    """Whether the tree has a top knot that is painted."""
    return tree is not None and tree[PAINT]
