"""What two trees have together, what both have, and what one has alone.

The one tree is taken apart at its top knot, and the other is cut by that
knot's key: so the lesser keys of both, and the greater ones, can be handled
alone, and the answers are put together again.
"""

from redpaint.joining import cut_at, joined, laid
from redpaint.knots import KEY


def united(one, other):
    """The tree of all keys of both, with the one's things where the one has the key."""
    if one is None:
        return other
    if other is None:
        return one
    # Cut by its own key, not just taken off: what hangs below may be painted.
    left, pair, right = cut_at(one, one[KEY])
    lesser, _, greater = cut_at(other, one[KEY])
    return joined(united(left, lesser), pair[0], pair[1], united(right, greater))


def common(one, other):
    """The tree of the one's pairs whose keys the other has too."""
    return _sifted(one, other, True)


def without(one, other):
    """The tree of the one's pairs whose keys the other hasn't."""
    return _sifted(one, other, False)


def _sifted(one, other, shared):
    """The tree of the one's pairs whose keys the other has, or hasn't, as shared tells."""
    if one is None:
        return None
    if other is None:
        return None if shared else one
    left, pair, right = cut_at(one, one[KEY])
    lesser, found, greater = cut_at(other, one[KEY])
    low = _sifted(left, lesser, shared)
    high = _sifted(right, greater, shared)
    if (found is not None) == shared:
        return joined(low, pair[0], pair[1], high)
    return laid(low, high)
