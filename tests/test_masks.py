"""Masks: what wardens/masks.py does for the other files."""

import unittest

from samples import chance_from
from wardens.masks import mask_of, numbers_in, union_of


class TestMasks(unittest.TestCase):
    def test_empty(self):
        self.assertEqual(mask_of([]), 0)
        self.assertEqual(numbers_in(0), [])
        self.assertEqual(union_of([1, 2], 0), 0)

    def test_numbers(self):
        self.assertEqual(mask_of([2, 0]), 5)
        self.assertEqual(numbers_in(5), [0, 2])
        self.assertEqual(mask_of((3, 3, 3)), 8)

    def test_union(self):
        self.assertEqual(union_of([1, 6, 8], mask_of([0, 2])), 9)
        self.assertEqual(union_of([1, 6, 8], mask_of([1])), 6)

    def test_back_and_forth(self):
        chance = chance_from(70)
        for _ in range(100):
            numbers = chance.sample(range(500), chance.randint(0, 60))
            self.assertEqual(numbers_in(mask_of(numbers)), sorted(numbers))


if __name__ == "__main__":
    unittest.main()
