"""Tests of the masks that the search for cuts and walls stands on."""

import unittest
from itertools import combinations

from chambercuts.covers import Search, has_apart, has_within, mask_of, narrowest, places, widest


def all_lists(bits, size):
    """Return all lists of so many unlike masks of so many bits."""
    return [list(masks) for masks in combinations(range(1 << bits), size)]


class Masks(unittest.TestCase):

    def test_places_and_masks(self):
        for mask in range(64):
            self.assertEqual(mask_of(places(mask)), mask)
            self.assertEqual(places(mask), sorted(places(mask)))
        self.assertEqual(places(0), [])
        self.assertEqual(places(0b10110), [1, 2, 4])
        self.assertEqual(mask_of((4, 0, 2)), 0b10101)

    def test_within_and_apart(self):
        for masks in all_lists(3, 2) + [[]]:
            for mask in range(8):
                self.assertIs(has_within(masks, mask), any(set(places(one)) <= set(places(mask)) for one in masks))
                self.assertIs(has_apart(masks, mask), any(not set(places(one)) & set(places(mask)) for one in masks))

    def test_widest_and_narrowest(self):
        for masks in all_lists(3, 3) + all_lists(3, 5):
            bits = {mask: set(places(mask)) for mask in masks}
            wide = [one for one in masks if not any(bits[one] < bits[other] for other in masks)]
            narrow = [one for one in masks if not any(bits[other] < bits[one] for other in masks)]
            self.assertEqual(widest(masks), wide)
            self.assertEqual(sorted(narrowest(masks[::-1])), sorted(narrow))


class Searches(unittest.TestCase):

    def is_covered(self, masks, rest, left):
        return any(
            set(places(rest)) <= {place for mask in some for place in places(mask)}
            for size in range(left + 1) for some in combinations(masks, size)
        )

    def test_covers_and_cores(self):
        for masks in all_lists(4, 3)[::7] + [[mask] for mask in range(16)]:
            # Each bit is in some mask, as each pair of outs is kept out by some parting.
            rest = 0
            for mask in masks:
                rest = rest | mask
            search = Search(masks)
            for left in range(4):
                found = search.cover(rest, left)
                self.assertIs(found is not None, self.is_covered(masks, rest, left))
                if found is not None:
                    self.assertLessEqual(len(found), left)
                    self.assertTrue(set(found) <= set(masks))
                    self.assertTrue(self.is_covered(found, rest, left))
                else:
                    core = search.core(rest, left)
                    self.assertEqual(core & ~rest, 0)
                    self.assertFalse(self.is_covered(masks, core, left))
                    for place in places(core):
                        self.assertTrue(self.is_covered(masks, core & ~(1 << place), left))


if __name__ == "__main__":
    unittest.main()
