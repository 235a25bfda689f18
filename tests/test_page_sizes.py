"""Page sizes: point 44."""

import random
import unittest

from boundbook.errors import BookError, Refused
from boundbook.paper import cheapest_page, fair_sizes, prices
from boundbook.pipeline import Job
from jobs import FAULTS, FAULTY, KINDS, TABLES, THREADS, TOO_WIDE, one_page_tables, random_kinds
from support import column, random_table, row, table_of

# Two body rows that may stand on two pages, of a width of 7.
ROWS = table_of([column(5)], [row(), row()], [["a"], ["b"]])


def price_of(tables, size, kinds):
    """The price of a page size, by its job."""
    try:
        job = Job(tables, size[0], size[1], kinds)
    except Refused as fault:
        if fault.what != "table has no pages":
            raise
        return None
    return (job.makeup()[1], len(job.pages()))


def plainly_fair(told):
    """The fair ones of the list of (number, area, cost)."""
    return [one for one in told if not any(
        other[1] <= one[1] and other[2] <= one[2] and (other[1] < one[1] or other[2] < one[2]) for other in told)]


def random_case(seed):
    rng = random.Random(seed)
    tables = tuple(random_table(rng.randrange(10 ** 6), rng.randint(1, 2), rng.randint(1, 4))
                   for _ in range(rng.randint(0, 3)))
    sizes = [(rng.randint(3, 16), rng.randint(3, 12)) for _ in range(rng.randint(0, 8))]
    return (tables, sizes, random_kinds(rng))


class PaperCase(unittest.TestCase):
    def raises(self, what, *arguments):
        for call in (prices, cheapest_page, fair_sizes):
            with self.assertRaises(Refused) as caught:
                call(*arguments)
            self.assertEqual(caught.exception.what, what)
            self.assertIsInstance(caught.exception, BookError)


class PricesTest(PaperCase):
    def test_costs_and_numbers_of_pages(self):
        self.assertEqual(prices((ROWS,), [(7, 5), (7, 4), (7, 3)], ((1, 1, 2),)), [(2, 1), (2, 2), (2, 2)])
        self.assertEqual(prices((ROWS, ROWS), [(7, 5), (7, 3)], ((1, 1, 2),)), [(2, 2), (4, 4)])
        self.assertEqual(prices(TABLES, [(13, 6), (40, 40)], KINDS), [(5, 5), (3, 3)])

    def test_a_size_that_does_not_count(self):
        self.assertEqual(prices((TOO_WIDE,), [(21, 9), (22, 9), (22, 2), (22, 3)], KINDS),
                         [None, (3, 1), None, (3, 1)])
        self.assertEqual(prices((THREADS, TOO_WIDE), [(21, 9), (22, 9)], KINDS), [None, (3, 2)])
        self.assertEqual(prices((TOO_WIDE, THREADS), [(21, 9), (22, 9)], KINDS), [None, (3, 2)])

    def test_no_sizes_and_no_tables(self):
        self.assertEqual(prices((THREADS,), [], KINDS), [])
        self.assertEqual(prices((), [(3, 3), (9, 9)], KINDS), [(0, 0), (0, 0)])

    def test_the_same_size_twice(self):
        self.assertEqual(prices((ROWS,), [(7, 3), (7, 3)], KINDS), [(3, 2), (3, 2)])

    def test_they_are_those_of_the_jobs(self):
        for seed in range(150):
            tables, sizes, kinds = random_case(seed)
            self.assertEqual(prices(tables, sizes, kinds), [price_of(tables, size, kinds) for size in sizes])


class CheapestTest(PaperCase):
    def test_the_least_cost(self):
        self.assertEqual(cheapest_page(one_page_tables(3) + (ROWS,), [(7, 3), (7, 5)], ((1, 2, 4),)), (1, 4, 4))
        self.assertEqual(cheapest_page(one_page_tables(3) + (ROWS,), [(7, 5), (7, 3)], ((1, 2, 4),)), (0, 4, 4))

    def test_of_one_cost_the_fewest_pages(self):
        self.assertEqual(cheapest_page((ROWS,), [(7, 3), (7, 5), (7, 4)], ((1, 1, 2),)), (1, 2, 1))
        self.assertEqual(cheapest_page((ROWS,), [(7, 3), (7, 4)], ((1, 1, 2),)), (0, 2, 2))

    def test_of_as_many_pages_the_first(self):
        self.assertEqual(cheapest_page((ROWS,), [(7, 3), (9, 9), (7, 5), (9, 9)], ((1, 1, 2),)), (1, 2, 1))
        self.assertEqual(cheapest_page((), [(9, 9), (3, 3)], KINDS), (0, 0, 0))

    def test_sizes_that_do_not_count(self):
        self.assertEqual(cheapest_page((TOO_WIDE,), [(21, 9), (22, 2), (30, 3), (22, 3)], KINDS), (2, 3, 1))
        self.assertIsNone(cheapest_page((TOO_WIDE,), [(21, 9), (22, 2)], KINDS))
        self.assertIsNone(cheapest_page((THREADS,), [], KINDS))
        self.assertIsNone(cheapest_page((), [], KINDS))

    def test_plain_search(self):
        for seed in range(150):
            tables, sizes, kinds = random_case(seed)
            told = [price_of(tables, size, kinds) for size in sizes]
            counted = [(price[0], price[1], number) for number, price in enumerate(told) if price is not None]
            wanted = None
            if counted:
                cost, pages, number = min(counted)
                wanted = (number, cost, pages)
            self.assertEqual(cheapest_page(tables, sizes, kinds), wanted)


class FairTest(PaperCase):
    def test_less_area_or_less_cost(self):
        self.assertEqual(fair_sizes((ROWS,) * 2, [(7, 5), (7, 3), (8, 5), (7, 4)], ((1, 1, 2),)),
                         [(0, 35, 2), (1, 21, 4)])

    def test_the_same_area_and_more_cost(self):
        # Two pages of 15 to 3, or one of 9 to 5.
        self.assertEqual(fair_sizes((ROWS,) * 2, [(15, 3), (9, 5)], ((1, 1, 2),)), [(1, 45, 2)])

    def test_the_same_cost_and_more_area(self):
        self.assertEqual(fair_sizes((ROWS,), [(7, 6), (7, 5), (8, 5)], KINDS), [(1, 35, 3)])

    def test_both_equal(self):
        self.assertEqual(fair_sizes((ROWS,), [(10, 6), (12, 5), (10, 6), (9, 7)], KINDS),
                         [(0, 60, 3), (1, 60, 3), (2, 60, 3)])

    def test_sizes_that_do_not_count_beat_none(self):
        self.assertEqual(fair_sizes((TOO_WIDE,), [(21, 3), (22, 3), (22, 2)], KINDS), [(1, 66, 3)])
        self.assertEqual(fair_sizes((TOO_WIDE,), [(21, 3)], KINDS), [])
        self.assertEqual(fair_sizes((THREADS,), [], KINDS), [])

    def test_no_tables(self):
        self.assertEqual(fair_sizes((), [(5, 5), (4, 6), (3, 8)], KINDS), [(1, 24, 0), (2, 24, 0)])

    def test_plain_search(self):
        for seed in range(150):
            tables, sizes, kinds = random_case(seed)
            told = [price_of(tables, size, kinds) for size in sizes]
            counted = [(number, size[0] * size[1], price[0])
                       for number, (size, price) in enumerate(zip(sizes, told)) if price is not None]
            self.assertEqual(fair_sizes(tables, sizes, kinds), plainly_fair(counted))


class ErrorsTest(PaperCase):
    def test_each_fault_of_tables(self):
        for table, what in FAULTS:
            self.raises(what, (THREADS, table), [(9, 9)], KINDS)

    def test_all_tables_are_looked_at_first(self):
        self.raises("place is not covered once", (TOO_WIDE, FAULTY), [(21, 9)], KINDS)
        self.raises("place is not covered once", (FAULTY, TOO_WIDE), [(21, 9)], KINDS)
        self.raises("place is not covered once", (FAULTY,), [], KINDS)

    def test_the_first_faulty_table(self):
        other = (THREADS[0], THREADS[1], THREADS[2][::-1])
        self.raises("place is not covered once", (THREADS, FAULTY, other), [(9, 9)], KINDS)
        self.raises("cells are not in order", (THREADS, other, FAULTY), [(9, 9)], KINDS)


class ChangesTest(PaperCase):
    def test_arguments_stay_and_answers_may_be_changed(self):
        tables, sizes = [ROWS, THREADS], [(9, 5), (9, 6)]
        for call in (prices, fair_sizes):
            answer = call(tables, sizes, KINDS)
            kept = list(answer)
            self.assertTrue(kept)
            self.assertEqual({type(part) for part in [answer, *answer]}, {list, tuple})
            answer.clear()
            self.assertEqual(call(tables, sizes, KINDS), kept)
        self.assertIsInstance(cheapest_page(tables, sizes, KINDS), tuple)
        self.assertEqual((tables, sizes), ([ROWS, THREADS], [(9, 5), (9, 6)]))


if __name__ == "__main__":
    unittest.main()
