"""Contents: point 49."""

import unittest

from boundbook.contents import contents, signatures_of, table_on, write_contents
from boundbook.pipeline import Job
from jobs import HEADS, INKS, KINDS, TABLES, THREADS, inks_job, page_job, random_job


class ContentsTest(unittest.TestCase):
    def test_tables_with_one_page_and_with_several(self):
        self.assertEqual(contents(inks_job()), [(0, 1, 3), (1, 4, 4), (2, 5, 5)])
        self.assertEqual(write_contents(inks_job()), "0 1-3\n1 4\n2 5")
        job = Job((THREADS, INKS, HEADS, INKS), 13, 6, KINDS)
        self.assertEqual(contents(job), [(0, 1, 1), (1, 2, 4), (2, 5, 5), (3, 6, 8)])
        self.assertEqual(write_contents(job), "0 1\n1 2-4\n2 5\n3 6-8")

    def test_two_pages(self):
        job = Job((INKS,), 13, 8, KINDS)
        self.assertEqual(contents(job), [(0, 1, 2)])
        self.assertEqual(write_contents(job), "0 1-2")

    def test_no_tables(self):
        job = Job((), 13, 6, KINDS)
        self.assertEqual((contents(job), write_contents(job)), ([], ""))

    def test_two_digits(self):
        self.assertEqual(write_contents(page_job(12, KINDS)).split("\n"),
                         [f"{number} {number + 1}" for number in range(12)])

    def test_through_the_pages(self):
        for seed in range(60):
            job = random_job(seed)
            pages = [page[0] for page in job.pages()]
            wanted = [(table, pages.index(table) + 1, pages.index(table) + pages.count(table))
                      for table in range(len(job.tables))]
            self.assertEqual(contents(job), wanted)


class TableOnTest(unittest.TestCase):
    def test_each_page(self):
        job = inks_job()
        self.assertEqual([table_on(job, page) for page in range(1, 6)], [(0, 0), (0, 1), (0, 2), (1, 0), (2, 0)])

    def test_no_such_page(self):
        job = inks_job()
        self.assertEqual(job.numbers(0), [1, 2, 3, 4, 5, 0, 0, 0])
        for page in (0, -1, -5, 6, 7, 8, 9, 100, 10000):
            self.assertIsNone(table_on(job, page))
        for page in (-1, 0, 1):
            self.assertIsNone(table_on(Job((), 13, 6, KINDS), page))


class SignaturesTest(unittest.TestCase):
    def test_a_table_in_several_signatures(self):
        job = Job(TABLES, 13, 6, ((1, 1, 1),))
        self.assertEqual([signatures_of(job, table) for table in range(3)], [[0, 1], [1], [2]])
        job = Job((THREADS, INKS), 13, 6, ((1, 1, 1),))
        self.assertEqual([signatures_of(job, table) for table in range(2)], [[0], [0, 1]])

    def test_one_signature(self):
        self.assertEqual([signatures_of(inks_job(), table) for table in range(3)], [[0], [0], [0]])

    def test_through_the_log(self):
        for seed in range(60):
            job = random_job(seed)
            for table in range(len(job.tables)):
                wanted = sorted({entry[3] for entry in job.log() if entry[1] == table})
                self.assertEqual(signatures_of(job, table), wanted)


class ChangesTest(unittest.TestCase):
    def test_answers_may_be_changed(self):
        job = inks_job()
        pages = job.pages()
        for call in (lambda: contents(job), lambda: signatures_of(job, 0)):
            answer = call()
            kept = list(answer)
            self.assertIsInstance(answer, list)
            answer.clear()
            self.assertEqual(call(), kept)
        self.assertEqual([type(part) for part in contents(job)], [tuple] * 3)
        self.assertIsInstance(table_on(job, 1), tuple)
        self.assertEqual(job.pages(), pages)


if __name__ == "__main__":
    unittest.main()
