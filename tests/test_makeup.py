"""Make-up: point 37."""

import itertools
import random
import unittest

from boundbook.makeup import cheapest_makeup, makeup_of


def pages_in(kinds, counts):
    return sum(2 * rows * columns * count for (rows, columns, _), count in zip(kinds, counts))


def plainly_cheapest(kinds, pages):
    """The cheapest make-up of all with no more signatures of a kind than would do alone."""
    choices = [range(-(-pages // (2 * rows * columns)) + 2) for rows, columns, _ in kinds]
    found = []
    for counts in itertools.product(*choices):
        many = pages_in(kinds, counts)
        if many >= pages:
            cost = sum(count * kind[2] for count, kind in zip(counts, kinds))
            found.append((cost, many - pages, tuple(-count for count in counts)))
    cost, blanks, negative = min(found)
    return (tuple(-count for count in negative), cost, blanks)


class MakeupOfTest(unittest.TestCase):
    kinds = ((1, 2, 3), (2, 2, 5))

    def test_counts_costs_and_blanks(self):
        self.assertEqual(makeup_of(self.kinds, (1, 1), 10), ((1, 1), 8, 2))
        self.assertEqual(makeup_of(self.kinds, (0, 2), 10), ((0, 2), 10, 6))
        self.assertEqual(makeup_of(self.kinds, (3, 0), 10), ((3, 0), 9, 2))
        self.assertEqual(makeup_of(((4, 4, 7),), (2,), 1), ((2,), 14, 63))

    def test_just_enough_and_one_too_few(self):
        self.assertEqual(makeup_of(self.kinds, (1, 1), 12), ((1, 1), 8, 0))
        self.assertIsNone(makeup_of(self.kinds, (1, 1), 13))
        self.assertIsNone(makeup_of(self.kinds, (0, 0), 1))

    def test_no_pages(self):
        self.assertEqual(makeup_of(self.kinds, (0, 0), 0), ((0, 0), 0, 0))
        self.assertEqual(makeup_of(self.kinds, (0, 1), 0), ((0, 1), 5, 8))

    def test_four_kinds(self):
        kinds = ((1, 1, 2), (1, 3, 4), (4, 4, 9), (3, 1, 1))
        self.assertEqual(makeup_of(kinds, (1, 2, 3, 4), 100), ((1, 2, 3, 4), 41, 34))
        self.assertEqual(makeup_of(kinds, (1, 2, 3, 4), 134), ((1, 2, 3, 4), 41, 0))
        self.assertIsNone(makeup_of(kinds, (1, 2, 3, 4), 135))


class CheapestTest(unittest.TestCase):
    def test_no_pages(self):
        self.assertEqual(cheapest_makeup(((1, 1, 1),), 0), ((0,), 0, 0))
        self.assertEqual(cheapest_makeup(((4, 4, 1), (1, 1, 9), (2, 1, 1)), 0), ((0, 0, 0), 0, 0))

    def test_pages_that_fill_a_signature_just_so_and_one_more(self):
        kinds = ((2, 2, 5),)
        self.assertEqual(cheapest_makeup(kinds, 1), ((1,), 5, 7))
        self.assertEqual(cheapest_makeup(kinds, 7), ((1,), 5, 1))
        self.assertEqual(cheapest_makeup(kinds, 8), ((1,), 5, 0))
        self.assertEqual(cheapest_makeup(kinds, 9), ((2,), 10, 7))
        self.assertEqual(cheapest_makeup(kinds, 16), ((2,), 10, 0))
        self.assertEqual(cheapest_makeup(kinds, 17), ((3,), 15, 7))

    def test_the_least_cost_first(self):
        self.assertEqual(cheapest_makeup(((1, 1, 2), (4, 4, 3)), 3), ((0, 1), 3, 29))
        self.assertEqual(cheapest_makeup(((1, 1, 2), (4, 4, 5)), 3), ((2, 0), 4, 1))
        self.assertEqual(cheapest_makeup(((4, 4, 9), (1, 2, 1)), 17), ((0, 5), 5, 3))

    def test_the_dearer_per_page_is_taken_where_it_fits(self):
        self.assertEqual(cheapest_makeup(((4, 4, 10), (1, 1, 1)), 34), ((1, 1), 11, 0))
        self.assertEqual(cheapest_makeup(((2, 2, 5), (1, 2, 3)), 12), ((1, 1), 8, 0))

    def test_of_one_cost_the_fewest_blanks(self):
        self.assertEqual(cheapest_makeup(((4, 4, 3), (2, 2, 3)), 5), ((0, 1), 3, 3))
        self.assertEqual(cheapest_makeup(((1, 2, 2), (1, 3, 3)), 10), ((1, 1), 5, 0))
        self.assertEqual(cheapest_makeup(((2, 2, 4), (1, 1, 2)), 4), ((0, 2), 4, 0))

    def test_of_as_many_blanks_the_greatest_counts(self):
        self.assertEqual(cheapest_makeup(((1, 2, 3), (2, 1, 3)), 9), ((3, 0), 9, 3))
        self.assertEqual(cheapest_makeup(((1, 1, 1), (1, 2, 2)), 4), ((2, 0), 2, 0))
        self.assertEqual(cheapest_makeup(((1, 2, 2), (1, 1, 1)), 4), ((1, 0), 2, 0))
        self.assertEqual(cheapest_makeup(((1, 2, 2), (1, 3, 3)), 12), ((3, 0), 6, 0))
        self.assertEqual(cheapest_makeup(((1, 3, 3), (1, 2, 2)), 12), ((2, 0), 6, 0))
        self.assertEqual(cheapest_makeup(((1, 3, 3), (1, 2, 2), (1, 4, 4)), 14), ((1, 2, 0), 7, 0))

    def test_plain_search(self):
        for seed in range(150):
            rng = random.Random(seed)
            kinds = tuple((rng.randint(1, 4), rng.randint(1, 4), rng.randint(1, 9))
                          for _ in range(rng.randint(1, 4)))
            pages = rng.randint(0, 20)
            self.assertEqual(cheapest_makeup(kinds, pages), plainly_cheapest(kinds, pages), (kinds, pages))

    def test_costs_that_tie_often(self):
        for seed in range(100):
            rng = random.Random(seed)
            kinds = tuple((1, rng.randint(1, 4), rng.randint(1, 2)) for _ in range(rng.randint(2, 4)))
            pages = rng.randint(0, 16)
            self.assertEqual(cheapest_makeup(kinds, pages), plainly_cheapest(kinds, pages), (kinds, pages))

    def test_it_is_the_makeup_of_its_counts(self):
        for pages in range(70):
            kinds = ((2, 2, 5), (1, 2, 3), (3, 1, 4))
            found = cheapest_makeup(kinds, pages)
            self.assertEqual(found, makeup_of(kinds, found[0], pages))
            self.assertEqual([type(part) for part in found], [tuple, int, int])

    def test_many_pages(self):
        self.assertEqual(cheapest_makeup(((4, 4, 10), (1, 1, 1)), 3200), ((100, 0), 1000, 0))
        self.assertEqual(cheapest_makeup(((4, 4, 10), (1, 1, 1)), 3203), ((100, 2), 1002, 1))


if __name__ == "__main__":
    unittest.main()
