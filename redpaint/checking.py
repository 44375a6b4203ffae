"""What is wrong with a tree; any tree may be asked, sound or not.

Nothing here goes down by recursion: such a tree may be far from low.
"""

from redpaint.knots import COUNT, KEY, LEFT, PAINT, RIGHT, is_painted, size_of


def faults_of(tree):
    """The list of those of the five words that do not hold of the tree."""
    knots = _knots_of(tree)
    faults = []
    if is_painted(tree):
        faults.append("top")
    if not _paint_holds(knots):
        faults.append("paint")
    if not _roads_hold(tree):
        faults.append("roads")
    if not _order_holds(knots):
        faults.append("order")
    if not _counts_hold(knots):
        faults.append("counts")
    return faults


def _knots_of(tree):
    """The list of all knots of the tree, from left to right."""
    knots = []
    above = []
    here = tree
    while here is not None or len(above) > 0:
        if here is not None:
            above.append(here)
            here = here[LEFT]
        else:
            here = above.pop()
            knots.append(here)
            here = here[RIGHT]
    return knots


def _paint_holds(knots):
    """Whether no painted knot among these has a painted child."""
    for here in knots:
        if here[PAINT] and (is_painted(here[LEFT]) or is_painted(here[RIGHT])):
            return False
    return True


def _roads_hold(tree):
    """Whether there are as many unpainted knots on every road."""
    heights = _heights_of(tree)
    return min(heights) == max(heights)


def _heights_of(tree):
    """The list of how many unpainted knots there are on each road, one for each None."""
    heights = []
    waiting = [(tree, 0)]
    while len(waiting) > 0:
        here, height = waiting.pop()
        if here is None:
            heights.append(height)
        else:
            below = height if here[PAINT] else height + 1
            waiting.append((here[LEFT], below))
            waiting.append((here[RIGHT], below))
    return heights


def _order_holds(knots):
    """Whether the keys of these knots rise."""
    for at in range(1, len(knots)):
        if knots[at - 1][KEY] >= knots[at][KEY]:
            return False
    return True


def _counts_hold(knots):
    """Whether the count of each of a tree's knots is right."""
    # Counts that all fit those of the children are all right, from a knot
    # without children upwards; so the knots below need not be counted again.
    for here in knots:
        if here[COUNT] != size_of(here[LEFT]) + 1 + size_of(here[RIGHT]):
            return False
    return True
