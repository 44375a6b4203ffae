"""Trees joined to one, and a tree parted by a key.

What is handed in and what is given is sound. In between, a tree may be met
whose top knot is painted (one that hangs in a sound tree), and `_unpainted`
makes such a tree sound: all its roads get one more unpainted knot.
"""

from redpaint.errors import NotApart
from redpaint.knots import KEY, LEFT, RIGHT, THING, is_painted, knot, pair_of, size_of
from redpaint.looking import pair_at


def joined(one, key, thing, other):
    """The tree of all pairs of one, then key with thing, then all pairs of other."""
    if one is not None and _last_key(one) >= key:
        raise NotApart("a key of the one tree is not less than the key between")
    if other is not None and _first_key(other) <= key:
        raise NotApart("a key of the other tree is not greater than the key between")
    return _bound(one, key, thing, other)


def laid(one, other):
    """The tree of all pairs of one, then all pairs of other."""
    if one is None:
        return other
    if other is None:
        return one
    key, thing = pair_at(other, 0)
    if _last_key(one) >= key:
        raise NotApart("a key of the one tree is not less than one of the other")
    rest = cut_at(other, key)[2]
    return _bound(one, key, thing, rest)


def cut_at(tree, key):
    """A tuple: the tree of lesser keys, the pair of key or None, the tree of greater keys."""
    if tree is None:
        return (None, None, None)
    left = _unpainted(tree[LEFT])
    right = _unpainted(tree[RIGHT])
    if key < tree[KEY]:
        lesser, pair, between = cut_at(left, key)
        return (lesser, pair, _bound(between, tree[KEY], tree[THING], right))
    if key > tree[KEY]:
        between, pair, greater = cut_at(right, key)
        return (_bound(left, tree[KEY], tree[THING], between), pair, greater)
    return (left, pair_of(tree), right)


def _first_key(tree):
    """The least key of a knot."""
    return pair_at(tree, 0)[0]


def _last_key(tree):
    """The greatest key of a knot."""
    return pair_at(tree, size_of(tree) - 1)[0]


def _unpainted(tree):
    """The tree with a top knot that isn't painted."""
    if not is_painted(tree):
        return tree
    return knot(False, tree[LEFT], tree[KEY], tree[THING], tree[RIGHT])


def _height(tree):
    """How many unpainted knots each road of the tree has."""
    # All roads have as many, so the one that keeps to the left tells for all.
    height = 0
    here = tree
    while here is not None:
        if not is_painted(here):
            height += 1
        here = here[LEFT]
    return height


def _bound(one, key, thing, other):
    """What joined gives, of trees whose keys are known to lie apart."""
    higher = _height(one) - _height(other)
    if higher > 0:
        return _unpainted(_hung_right(one, higher, key, thing, other))
    return _unpainted(_hung_left(one, key, thing, other, -higher))


def _hung_right(one, higher, key, thing, other):
    """Hang other, of a height less by higher, on the right of one, with key between.

    The roads get no more unpainted knots than those of one. Where the top knot
    of one is painted, the answer's top knot and its right child may both be so;
    the unpainted knot above it mends that by a turn.
    """
    if higher == 0 and not is_painted(one):
        return knot(True, one, key, thing, other)
    painted = is_painted(one)
    hung = _hung_right(one[RIGHT], higher if painted else higher - 1, key, thing, other)
    if not painted and is_painted(hung) and is_painted(hung[RIGHT]):
        near = knot(False, one[LEFT], one[KEY], one[THING], hung[LEFT])
        return knot(True, near, hung[KEY], hung[THING], _unpainted(hung[RIGHT]))
    return knot(painted, one[LEFT], one[KEY], one[THING], hung)


def _hung_left(one, key, thing, other, higher):
    """Hang one, of a height less by higher, on the left of other, with key between.

    It is _hung_right with left and right exchanged.
    """
    if higher == 0 and not is_painted(other):
        return knot(True, one, key, thing, other)
    painted = is_painted(other)
    hung = _hung_left(one, key, thing, other[LEFT], higher if painted else higher - 1)
    if not painted and is_painted(hung) and is_painted(hung[LEFT]):
        near = knot(False, hung[RIGHT], other[KEY], other[THING], other[RIGHT])
        return knot(True, _unpainted(hung[LEFT]), hung[KEY], hung[THING], near)
    return knot(painted, hung, other[KEY], other[THING], other[RIGHT])
