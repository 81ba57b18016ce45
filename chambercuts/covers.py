"""Masks, and how few of some masks are needed for another one.

A mask is a number each of whose bits stands for a thing that is in a set. One mask lies within
another one if it has no bit that the other one does not have.
"""


class Search:
    """Looks among some masks for so many that cover another one, and keeps what it has found."""

    def __init__(self, masks):
        self.masks = masks
        self._known = {}

    def cover(self, rest, left):
        """Return at most so many masks that together have each bit of rest, or None if no such do."""
        if rest == 0:
            return ()
        if left == 0:
            return None
        if (rest, left) not in self._known:
            self._known[(rest, left)] = self._try(rest, left)
        return self._known[(rest, left)]

    def core(self, rest, left):
        """Return a mask within rest that so many cannot cover, but could with any bit less.

        It is for a rest that so many cannot cover.
        """
        found = rest
        for place in places(rest):
            less = found & ~(1 << place)
            if self.cover(less, left) is None:
                found = less
        return found

    def _try(self, rest, left):
        """Return what cover does, for a rest and a number that are not 0."""
        for mask in self._rarest(rest):
            others = self.cover(rest & ~mask, left - 1)
            if others is not None:
                return (mask,) + others
        return None

    def _rarest(self, rest):
        """Return all masks that have one bit of rest, the bit that the fewest have."""
        # Any masks that cover rest have one of these among them, so no others need be tried first.
        return min([self._having(place) for place in places(rest)], key=len)

    def _having(self, place):
        """Return all masks that have the bit at this place."""
        return [mask for mask in self.masks if mask >> place & 1]


def places(mask):
    """Return the ascending places of the bits of a mask."""
    return [place for place in range(mask.bit_length()) if mask >> place & 1]


def mask_of(some):
    """Return the mask with bits at these places, none of which comes twice."""
    return sum([1 << place for place in some])


def widest(masks):
    """Return those of some unlike masks that lie within no other one."""
    return [mask for mask in masks if not _is_within_another(mask, masks)]


def narrowest(masks):
    """Return those of some unlike masks within which no other one lies."""
    found = []
    # A mask is no less than each one that lies within it, so those that matter are found ahead of it.
    for mask in sorted(masks):
        if not has_within(found, mask):
            found.append(mask)
    return found


def has_within(masks, mask):
    """Tell whether one of some masks lies within this one."""
    for other in masks:
        if other | mask == mask:
            return True
    return False


def has_apart(masks, mask):
    """Tell whether one of some masks has no bit that this one has."""
    for other in masks:
        if other & mask == 0:
            return True
    return False


def _is_within_another(mask, masks):
    """Tell whether a mask lies within one of some masks that is not the same."""
    for other in masks:
        if mask != other and mask | other == other:
            return True
    return False
