"""Copies that are read: point 45, and point 2."""

import unittest

from boundbook.errors import BookError, Refused
from boundbook.pipeline import Job
from boundbook.reading import is_good, read_copy, texts_of, wanted_marks
from jobs import HEADS, INKS, KINDS, SPANS, TABLES, THREADS, inks_job, page_job, random_job, text_job

INKS_TEXTS = ["Inks", "ml", "red", "7", "blue ink", "12", "gold", "3"]


class JobWithDrawings(Job):
    """A job some of whose drawings have been exchanged; a drawing is named by its number."""

    def __init__(self, others, *arguments):
        super().__init__(*arguments)
        self.others = others

    def pages(self):
        pages = super().pages()
        for number, drawing in self.others.items():
            pages[number - 1] = pages[number - 1][:2] + (drawing,)
        return pages


def with_text(drawing, old, new):
    return tuple(line.replace(old, new) for line in drawing)


class ReadingCase(unittest.TestCase):
    def raises(self, what, job, copy):
        with self.assertRaises(Refused) as caught:
            read_copy(job, copy)
        self.assertEqual(caught.exception.what, what)
        self.assertIsInstance(caught.exception, BookError)

    def faulty(self, job, copy):
        self.assertIs(is_good(job, copy), False)
        self.raises("copy is faulty", job, copy)


class MarksTest(ReadingCase):
    def test_wanted_marks(self):
        self.assertEqual(wanted_marks(page_job(3, ((1, 2, 1),))), [(1, False), (2, False), (3, False), (0, False)])
        self.assertEqual(wanted_marks(Job((), 9, 9, KINDS)), [])
        self.assertEqual(wanted_marks(page_job(5, ((1, 2, 1),))),
                         [(number, False) for number in (1, 2, 3, 4, 5, 0, 0, 0)])

    def test_copies_of_jobs_are_good(self):
        for job in [inks_job(), text_job(), Job((), 9, 9, KINDS)] + [random_job(seed) for seed in range(40)]:
            self.assertIs(is_good(job, job.copy()), True)
            self.assertEqual(wanted_marks(job), [mark for leaf in job.copy() for mark in leaf])


class TextsTest(ReadingCase):
    def test_texts_of(self):
        self.assertEqual(texts_of(()), [])
        self.assertEqual(texts_of(TABLES), [INKS_TEXTS, ["thread", "red wax"], ["Paper", "cm", "A4", ""]])
        self.assertEqual(texts_of((SPANS,)), [["all red", "x", "", "y x"]])

    def test_one_two_and_three_tables(self):
        for tables in ((INKS,), (THREADS, INKS), TABLES):
            job = Job(tables, 13, 6, KINDS)
            self.assertEqual(read_copy(job, job.copy()), texts_of(tables))
        self.assertEqual(read_copy(inks_job(), inks_job().copy()),
                         [INKS_TEXTS, ["thread", "red wax"], ["Paper", "cm", "A4", ""]])

    def test_the_head_of_further_pages_is_read_once(self):
        job = inks_job()
        self.assertEqual([page[:2] for page in job.pages()][:3], [(0, 0), (0, 1), (0, 2)])
        self.assertEqual(read_copy(job, job.copy())[0], INKS_TEXTS)

    def test_a_table_of_head_rows_alone(self):
        job = Job((HEADS, HEADS), 20, 20, ((1, 1, 1),))
        self.assertEqual(read_copy(job, job.copy()), [["Paper", "cm", "A4", ""]] * 2)

    def test_several_head_rows_and_cells_over_places(self):
        table = (
            ((1, None, None, "left"), (1, None, None, "right")),
            ((1, True, False), (2, True, False), (1, False, False), (1, False, False)),
            ((0, 0, 2, 1, ("a", "b")), (0, 1, 1, 1, ("c",)), (1, 1, 1, 1, ()),
             (2, 0, 1, 2, ("d", "d")), (3, 0, 1, 1, ()), (3, 1, 1, 1, ("a",))),
        )
        job = Job((table, SPANS), 12, 9, ((1, 1, 1),))
        self.assertEqual(len(job.pages()), 3)
        self.assertEqual(read_copy(job, job.copy()), [["a b", "c", "", "d d", "", "a"], ["all red", "x", "", "y x"]])

    def test_no_tables(self):
        self.assertEqual(read_copy(Job((), 9, 9, KINDS), []), [])

    def test_random_jobs_give_the_manuscript(self):
        for seed in range(150):
            job = random_job(seed)
            self.assertEqual(read_copy(job, job.copy()), texts_of(job.tables), seed)


class FaultyTest(ReadingCase):
    def test_one_mark_changed(self):
        job = inks_job()
        copy = job.copy()
        for place, (above, below) in enumerate(copy):
            for page in (0, 1, 5, 6, 9999):
                if page != above[0]:
                    self.faulty(job, copy[:place] + [((page, False), below)] + copy[place + 1:])
                if page != below[0]:
                    self.faulty(job, copy[:place] + [(above, (page, False))] + copy[place + 1:])

    def test_one_mark_rotated(self):
        job = inks_job()
        copy = job.copy()
        for place, (above, below) in enumerate(copy):
            self.faulty(job, copy[:place] + [((above[0], True), below)] + copy[place + 1:])
            self.faulty(job, copy[:place] + [(above, (below[0], True))] + copy[place + 1:])

    def test_two_leaves_changed_about(self):
        job = inks_job()
        for first in range(4):
            for second in range(first):
                copy = job.copy()
                copy[first], copy[second] = copy[second], copy[first]
                self.faulty(job, copy)

    def test_a_leaf_turned_over(self):
        job = inks_job()
        copy = job.copy()
        copy[1] = copy[1][::-1]
        self.faulty(job, copy)

    def test_leaves_that_lack_or_are_too_many(self):
        job = inks_job()
        copy = job.copy()
        blank = ((0, False), (0, False))
        for other in ([], copy[:-1], copy[1:], copy + [copy[-1]], copy + [blank], [blank] + copy):
            self.faulty(job, other)
        self.faulty(Job((), 9, 9, KINDS), [blank])

    def test_the_copy_of_another_job(self):
        self.faulty(inks_job(), text_job().copy())
        self.faulty(page_job(4, ((1, 1, 1),)), page_job(3, ((1, 1, 1),)).copy())


class HeadsTest(ReadingCase):
    def setUp(self):
        self.drawings = [page[2] for page in inks_job().pages()]

    def job(self, others):
        return JobWithDrawings(others, TABLES, 13, 6, KINDS)

    def test_heads_that_differ(self):
        for number in (1, 2, 3):
            for old, new in (("Inks", "inks"), ("ml", "cl"), ("ml", "  ")):
                others = {number: with_text(self.drawings[number - 1], old, new)}
                self.raises("heads differ", self.job(others), inks_job().copy())

    def test_bodies_may_differ(self):
        job = self.job({2: with_text(self.drawings[1], "blue", "cyan")})
        texts = ["Inks", "ml", "red", "7", "cyan ink", "12", "gold", "3"]
        self.assertEqual(read_copy(job, job.copy())[0], texts)

    def test_faulty_is_told_first(self):
        job = self.job({2: with_text(self.drawings[1], "ml", "cl")})
        self.raises("copy is faulty", job, job.copy()[::-1])
        self.raises("heads differ", job, job.copy())


class ChangesTest(ReadingCase):
    def test_arguments_stay_and_answers_may_be_changed(self):
        job = inks_job()
        copy = job.copy()
        answers = [wanted_marks(job), read_copy(job, copy), texts_of(list(TABLES))]
        for answer in answers:
            self.assertIsInstance(answer, list)
            if isinstance(answer[0], list):
                answer[0].clear()
            answer.clear()
        self.assertEqual(copy, job.copy())
        self.assertTrue(is_good(job, copy))
        self.assertEqual(read_copy(job, copy), texts_of(TABLES))
        self.assertEqual(len(wanted_marks(job)), 8)
        copy.clear()
        self.assertTrue(is_good(job, job.copy()))


if __name__ == "__main__":
    unittest.main()
