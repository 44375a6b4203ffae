"""A pair put into a tree or taken from it, and a tree raised from a list of pairs."""

from redpaint.errors import NoKey, NotRising
from redpaint.joining import cut_at, joined, laid
from redpaint.knots import knot


def put(tree, key, thing):
    """The tree with key and thing, in the place of the pair with that key, if there is one."""
    lesser, _, greater = cut_at(tree, key)
    return joined(lesser, key, thing, greater)


def taken(tree, key):
    """The tree without the pair of the key; NoKey where there is none."""
    lesser, pair, greater = cut_at(tree, key)
    if pair is None:
        raise NoKey(f"the tree hasn't the key {key}")
    return laid(lesser, greater)


def raised(pairs):
    """The tree of a list of pairs; NotRising where their keys do not rise."""
    for at in range(1, len(pairs)):
        if pairs[at][0] <= pairs[at - 1][0]:
            raise NotRising(f"the key {pairs[at][0]} is not greater than the one ahead of it")
    return _raised_between(pairs, 0, len(pairs), _whole_rows(len(pairs)))


def _whole_rows(many):
    """How many rows, from the top on, so many knots fill from end to end."""
    return (many + 1).bit_length() - 1


def _raised_between(pairs, first, end, whole):
    """The tree of the pairs from first on and ahead of end.

    As many rows as whole tells are filled from end to end, and stay unpainted.
    What is left over lies in one more row below, and is painted: so all roads
    have as many unpainted knots. Halving leaves either side enough for its own
    whole rows, and no more than fits into the row below them.
    """
    if first == end:
        return None
    middle = (first + end) // 2
    key, thing = pairs[middle]
    left = _raised_between(pairs, first, middle, whole - 1)
    right = _raised_between(pairs, middle + 1, end, whole - 1)
    return knot(whole == 0, left, key, thing, right)
