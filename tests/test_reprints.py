"""Changed manuscripts: point 48."""

import random
import unittest

from boundbook.pipeline import Job
from boundbook.reprints import changed_pages, reprint_cost, reprints
from jobs import INKS, KINDS, TABLES, THREADS, inks_job, one_page_tables, page_job, random_job
from support import column, row, table_of

SMALL = ((1, 1, 2),)


def word_table(word):
    return table_of([column()], [row()], [[word]])


def words_job(text, kinds=SMALL):
    """A job with a page for each word."""
    return Job([word_table(word) for word in text.split()], 20, 20, kinds)


def with_text(table, old, new):
    columns, rows, cells = table
    return (columns, rows, tuple(cell[:4] + (tuple(new if word == old else word for word in cell[4]),)
                                 for cell in cells))


def plain_reprints(old, new):
    """The reprints by what the sheets of the signatures show, blanks included."""
    def shown(job, signature):
        pages = {number: page[2] for number, page in enumerate(job.pages(), start=1)}
        return (job.plan(signature)[0], [pages.get(number) for number in job.numbers(signature)])
    taken, kept, printed = set(), [], []
    for signature in range(new.signature_count()):
        for other in range(old.signature_count()):
            if other not in taken and shown(old, other) == shown(new, signature):
                taken.add(other)
                kept.append((other, signature))
                break
        else:
            printed.append(signature)
    return (kept, printed)


class ChangedPagesTest(unittest.TestCase):
    def test_nothing(self):
        self.assertEqual(changed_pages(inks_job(), inks_job()), [])
        job = inks_job()
        self.assertEqual(changed_pages(job, job), [])
        self.assertEqual(changed_pages(Job((), 9, 9, KINDS), Job((), 9, 9, KINDS)), [])

    def test_one_word(self):
        other = Job((with_text(INKS, "gold", "zinc"),) + TABLES[1:], 13, 6, KINDS)
        self.assertEqual(changed_pages(inks_job(), other), [3])
        other = Job((with_text(INKS, "ml", "cl"),) + TABLES[1:], 13, 6, KINDS)
        self.assertEqual(changed_pages(inks_job(), other), [1, 2, 3])

    def test_one_word_that_changes_the_layout(self):
        other = Job((with_text(INKS, "gold", "g"),) + TABLES[1:], 13, 6, KINDS)
        self.assertEqual(changed_pages(inks_job(), other), [3])
        other = Job((with_text(INKS, "blue", "bl"),) + TABLES[1:], 13, 6, KINDS)
        self.assertEqual(changed_pages(inks_job(), other), [1, 2, 3])

    def test_one_table(self):
        self.assertEqual(changed_pages(words_job("a b c d"), words_job("a b x d")), [3])

    def test_the_order_of_tables(self):
        self.assertEqual(changed_pages(words_job("a b c d"), words_job("a c b d")), [2, 3])
        self.assertEqual(changed_pages(words_job("a b c"), words_job("c a b")), [1, 2, 3])

    def test_fewer_pages_and_more(self):
        self.assertEqual(changed_pages(words_job("a b c"), words_job("a b")), [])
        self.assertEqual(changed_pages(words_job("a b c"), words_job("b")), [1])
        self.assertEqual(changed_pages(words_job("a b"), words_job("a b c d")), [3, 4])
        self.assertEqual(changed_pages(Job((), 9, 9, KINDS), words_job("a b")), [1, 2])
        self.assertEqual(changed_pages(words_job("a b"), Job((), 9, 9, KINDS)), [])

    def test_the_same_drawing_of_another_table(self):
        tables = (THREADS,) + one_page_tables(1)
        self.assertEqual(changed_pages(Job(tables, 13, 6, KINDS), Job(tables + tables, 13, 6, SMALL)), [3, 4])
        two_pages = table_of([column()], [row(), row()], [["a"], ["b"]])
        self.assertEqual(changed_pages(Job((two_pages,), 9, 3, SMALL), words_job("a b")), [])


class ReprintsTest(unittest.TestCase):
    def check(self, old, new, kept, printed, cost):
        self.assertEqual(reprints(old, new), (kept, printed))
        self.assertEqual(reprint_cost(old, new), cost)

    def test_nothing_changed(self):
        self.check(inks_job(), inks_job(), [(0, 0)], [], 0)
        self.check(words_job("a b c d e"), words_job("a b c d e"), [(0, 0), (1, 1), (2, 2)], [], 0)

    def test_one_word(self):
        self.check(words_job("a b c d e"), words_job("a b x d e"), [(0, 0), (2, 2)], [1], 2)

    def test_the_order_of_tables(self):
        self.check(words_job("a b c d e f"), words_job("e f a b c d"), [(2, 0), (0, 1), (1, 2)], [], 0)
        self.check(words_job("a b c d"), words_job("b a c d"), [(1, 1)], [0], 2)

    def test_one_signature_that_shows_the_same_as_several(self):
        self.check(words_job("a b a b c d"), words_job("a b"), [(0, 0)], [], 0)
        self.check(words_job("c d a b a b"), words_job("a b a b a b"), [(1, 0), (2, 1)], [2], 2)
        self.check(words_job("a b"), words_job("a b a b"), [(0, 0)], [1], 2)

    def test_fewer_pages_and_more(self):
        self.check(words_job("a b c d"), words_job("a b c"), [(0, 0)], [1], 2)
        self.check(words_job("a b c"), words_job("a b c d"), [(0, 0)], [1], 2)
        self.check(words_job("a b c d e"), words_job("c d"), [(1, 0)], [], 0)
        self.check(Job((), 9, 9, KINDS), words_job("a b c"), [], [0, 1], 4)
        self.check(words_job("a b c"), Job((), 9, 9, KINDS), [], [], 0)

    def test_blank_pages(self):
        self.check(words_job("a b a"), words_job("a"), [(1, 0)], [], 0)
        self.check(words_job("a b"), words_job("a"), [], [0], 2)
        self.check(words_job("a a a", ((1, 2, 1),)), words_job("a a", ((1, 2, 1),)), [], [0], 1)

    def test_the_size_counts_and_the_cost_does_not(self):
        self.check(words_job("a b c d", ((1, 2, 3),)), words_job("a b c d", ((2, 1, 3),)), [], [0], 3)
        self.check(words_job("a b c", ((1, 2, 3),)), words_job("a b c", ((1, 3, 4),)), [], [0], 4)
        self.check(words_job("a b c", ((2, 3, 3),)), words_job("a b c", ((1, 3, 4),)), [], [0], 4)
        self.check(words_job("a b c d", ((1, 2, 3),)), words_job("a b c d", ((1, 2, 9),)), [(0, 0)], [], 0)
        self.check(words_job("a b c d", ((1, 2, 3),)), words_job("a b c x", ((1, 2, 9),)), [], [0], 9)

    def test_the_costs_of_several_kinds(self):
        kinds = ((2, 2, 5), (1, 2, 3))
        old = page_job(12, kinds)
        tables = one_page_tables(12)
        first = Job((word_table("x"),) + tables[1:], 20, 20, kinds)
        last = Job(tables[:11] + (word_table("x"),), 20, 20, kinds)
        both = Job((word_table("x"),) + tables[1:11] + (word_table("x"),), 20, 20, kinds)
        self.check(old, first, [(1, 1)], [0], 5)
        self.check(old, last, [(0, 0)], [1], 3)
        self.check(old, both, [], [0, 1], 8)

    def test_plain_search(self):
        for seed in range(150):
            rng = random.Random(seed)
            kinds = rng.choice((SMALL, ((1, 2, 3),), ((1, 1, 2), (1, 2, 3)), ((2, 1, 3), (1, 2, 3))))
            old, new = [words_job(" ".join(rng.choice("ab") for _ in range(rng.randint(0, 12))), kinds)
                        for _ in range(2)]
            wanted = plain_reprints(old, new)
            self.assertEqual(reprints(old, new), wanted)
            costs = [kind[2] for kind, count in zip(kinds, new.makeup()[0]) for _ in range(count)]
            self.assertEqual(reprint_cost(old, new), sum(costs[signature] for signature in wanted[1]))
            pages = [[page[2] for page in job.pages()] for job in (old, new)]
            self.assertEqual(changed_pages(old, new), [
                number for number in range(1, len(pages[1]) + 1) if pages[0][number - 1:number] != [pages[1][number - 1]]])

    def test_random_jobs(self):
        for seed in range(40):
            old, new = random_job(seed), random_job(seed + 1000)
            self.assertEqual(reprints(old, new), plain_reprints(old, new))
            self.assertEqual(reprints(new, new)[1], [])


class ChangesTest(unittest.TestCase):
    def test_answers_may_be_changed(self):
        old, new = words_job("a b c d"), words_job("a b c x")
        before = (old.pages(), new.pages())
        for _ in range(2):
            pages, (kept, printed) = changed_pages(old, new), reprints(old, new)
            self.assertEqual((pages, kept, printed, reprint_cost(old, new)), ([4], [(0, 0)], [1], 2))
            for answer in (pages, kept, printed):
                self.assertIsInstance(answer, list)
                answer.clear()
        self.assertIsInstance(reprints(old, new), tuple)
        self.assertEqual((old.pages(), new.pages()), before)


if __name__ == "__main__":
    unittest.main()
