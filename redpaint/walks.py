"""A walk over the pairs of a tree, forwards and backwards."""

from redpaint.knots import size_of
from redpaint.looking import count_below, pair_at


class Walk:
    """Stands between the pairs of a sound tree, at first ahead of all.

    The tree never changes, so the place alone tells where the walk stands.
    """

    def __init__(self, tree):
        """A walk ahead of all pairs of the tree."""
        self.tree = tree
        self.place = 0

    def step(self):
        """Go behind the next pair and give it; at the end stay there and give None."""
        if self.place == size_of(self.tree):
            return None
        pair = pair_at(self.tree, self.place)
        self.place += 1
        return pair

    def back(self):
        """Go ahead of the last pair and give it; ahead of all stay there and give None."""
        if self.place == 0:
            return None
        self.place -= 1
        return pair_at(self.tree, self.place)

    def seek(self, key):
        """Go to where all pairs with lesser keys lie ahead, and no others."""
        self.place = count_below(self.tree, key)
