"""What a tree tells of its pairs; every tree here is a sound one."""

from redpaint.errors import NoKey, NoPlace
from redpaint.knots import KEY, LEFT, RIGHT, THING, pair_of, size_of


def pairs_of(tree):
    """The list of all pairs (key, thing), in the order of the keys."""
    pairs = []
    _gather(tree, pairs)
    return pairs


def _gather(tree, pairs):
    """Append the pairs of the tree to pairs."""
    if tree is None:
        return
    _gather(tree[LEFT], pairs)
    pairs.append(pair_of(tree))
    _gather(tree[RIGHT], pairs)


def road_to(tree, key):
    """The list of the keys that are met as key is looked for."""
    road = []
    here = tree
    while here is not None:
        road.append(here[KEY])
        if here[KEY] == key:
            return road
        here = _next_down(here, key)
    return road


def _next_down(top, key):
    """The tree below a knot in which a key other than the knot's is looked for."""
    if key < top[KEY]:
        return top[LEFT]
    return top[RIGHT]


def _found(tree, key):
    """The knot that has the key, or None."""
    here = tree
    while here is not None and here[KEY] != key:
        here = _next_down(here, key)
    return here


def has_key(tree, key):
    """Whether the tree has the key."""
    return _found(tree, key) is not None


def thing_of(tree, key):
    """The thing of the key; NoKey where the tree hasn't the key."""
    # The knot is asked, not the thing: a thing may be None itself.
    found = _found(tree, key)
    if found is None:
        raise NoKey(f"the tree hasn't the key {key}")
    return found[THING]


def pair_at(tree, place):
    """The pair ahead of which there are place pairs; NoPlace where there is none."""
    if place < 0 or place >= size_of(tree):
        raise NoPlace(f"the tree hasn't the place {place}")
    here = tree
    ahead = place
    while ahead != size_of(here[LEFT]):
        if ahead < size_of(here[LEFT]):
            here = here[LEFT]
        else:
            ahead = ahead - size_of(here[LEFT]) - 1
            here = here[RIGHT]
    return pair_of(here)


def count_below(tree, key):
    """How many keys of the tree are less than key."""
    below = 0
    here = tree
    while here is not None:
        if here[KEY] < key:
            below = below + size_of(here[LEFT]) + 1
            here = here[RIGHT]
        else:
            here = here[LEFT]
    return below


def pair_ahead(tree, key):
    """The pair with the greatest key that is less than key, or None."""
    best = None
    here = tree
    while here is not None:
        if here[KEY] < key:
            best = pair_of(here)
            here = here[RIGHT]
        else:
            here = here[LEFT]
    return best


def pair_behind(tree, key):
    """The pair with the least key that is greater than key, or None."""
    best = None
    here = tree
    while here is not None:
        if here[KEY] > key:
            best = pair_of(here)
            here = here[LEFT]
        else:
            here = here[RIGHT]
    return best


def pairs_between(tree, low, high):
    """The list of the pairs whose keys are not less than low, and less than high."""
    pairs = []
    _gather_between(tree, low, high, pairs)
    return pairs


def _gather_between(tree, low, high, pairs):
    """Append the pairs of the tree from low on and below high to pairs."""
    if tree is None:
        return
    if low < tree[KEY]:
        _gather_between(tree[LEFT], low, high, pairs)
    if low <= tree[KEY] < high:
        pairs.append(pair_of(tree))
    if tree[KEY] < high:
        _gather_between(tree[RIGHT], low, high, pairs)
