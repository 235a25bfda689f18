"""Jobs and copies: points 40 to 43, and points 2 and 4 for them."""

import random
import unittest

from boundbook.bindery import Bindery
from boundbook.drawing import draw, read_drawing
from boundbook.errors import BookError, Refused
from boundbook.fewest import fewest_pages
from boundbook.imposition import impose, read_prints
from boundbook.makeup import cheapest_makeup
from boundbook.pages import page_layout, page_table
from boundbook.pipeline import Job, pages_of
from jobs import (FAULTS, FAULTY, INKS, KINDS, TABLES, THREADS, TOO_WIDE, inks_job, page_job, printed_marks,
                  random_job, random_tables, text_job)
from paper import carried_out


def sizes_of_signatures(job):
    return [tuple(job.plan(signature)[0][1:]) for signature in range(job.signature_count())]


class JobCase(unittest.TestCase):
    def raises(self, what, call, *arguments):
        with self.assertRaises(Refused) as caught:
            call(*arguments)
        self.assertEqual(caught.exception.what, what)
        self.assertIsInstance(caught.exception, BookError)


class PagesTest(JobCase):
    def test_no_tables(self):
        self.assertEqual(pages_of((), 10, 10), [])

    def test_one_page(self):
        self.assertEqual(pages_of((THREADS,), 9, 6), [
            (0, 0, ("+-------+", "|thread |", "+-------+", "|red wax|", "+-------+"))])

    def test_head_rows_on_each_page(self):
        line = "+--------+--+"
        head = (line, "|Inks    |ml|", line)
        self.assertEqual(pages_of((INKS,), 13, 6), [
            (0, 0, head + ("|red     | 7|", line)),
            (0, 1, head + ("|blue ink|12|", line)),
            (0, 2, head + ("|gold    | 3|", line))])

    def test_tables_and_their_pages_are_counted_from_0(self):
        pages = pages_of(TABLES, 13, 6)
        self.assertEqual([page[:2] for page in pages], [(0, 0), (0, 1), (0, 2), (1, 0), (2, 0)])

    def test_they_are_the_fewest_pages_drawn(self):
        for seed in range(60):
            rng = random.Random(seed)
            max_width, page_height = rng.randint(10, 30), rng.randint(5, 12)
            tables = random_tables(seed, rng.randint(0, 3), max_width, page_height)
            wanted = []
            for number, table in enumerate(tables):
                layout, divided = fewest_pages(table, max_width, page_height)
                for page, (first, behind) in enumerate(divided):
                    drawing = draw(page_table(table, first, behind), page_layout(table, layout, first, behind))
                    wanted.append((number, page, drawing))
                    self.assertLessEqual(len(drawing), page_height)
                    self.assertLessEqual(len(drawing[0]), max_width)
            self.assertEqual(pages_of(tables, max_width, page_height), wanted)

    def test_table_has_no_pages(self):
        self.raises("table has no pages", pages_of, (TOO_WIDE,), 21, 10)
        self.assertEqual(len(pages_of((TOO_WIDE,), 22, 10)), 1)
        self.raises("table has no pages", pages_of, (TOO_WIDE,), 22, 2)
        self.raises("table has no pages", pages_of, (THREADS, TOO_WIDE), 21, 10)
        self.raises("table has no pages", pages_of, (INKS,), 13, 4)

    def test_each_fault_of_tables(self):
        for table, what in FAULTS:
            for tables in ((table,), (THREADS, table), (table, TOO_WIDE), (table, INKS)):
                self.raises(what, pages_of, tables, 21, 10)
                self.raises(what, Job, tables, 21, 10, KINDS)

    def test_errors_come_table_by_table(self):
        self.raises("table has no pages", pages_of, (TOO_WIDE, FAULTY), 21, 10)
        self.raises("place is not covered once", pages_of, (FAULTY, TOO_WIDE), 21, 10)
        self.raises("table has no pages", Job, (TOO_WIDE, FAULTY), 21, 10, KINDS)
        self.raises("place is not covered once", Job, (FAULTY, TOO_WIDE), 21, 10, KINDS)

    def test_a_faulty_table_without_pages_is_faulty(self):
        faulty = (TOO_WIDE[0], TOO_WIDE[1], ())
        self.raises("place is not covered once", pages_of, (faulty,), 21, 10)


class SignaturesTest(JobCase):
    def test_no_pages(self):
        job = Job((), 10, 10, KINDS)
        self.assertEqual((job.tables, job.kinds), ((), KINDS))
        self.assertEqual((job.pages(), job.makeup(), job.signature_count()), ([], ((0, 0), 0, 0), 0))
        self.assertEqual((job.copy(), job.log()), ([], []))
        self.assertTrue(job.is_log([]))

    def test_attributes(self):
        job = Job(TABLES, 13, 6, KINDS)
        self.assertEqual((job.tables, job.kinds), (TABLES, KINDS))
        self.assertEqual([type(part) for part in (job.tables, job.kinds)], [tuple, tuple])

    def test_pages_and_makeup(self):
        job = inks_job()
        self.assertEqual(job.pages(), pages_of(TABLES, 13, 6))
        self.assertEqual(job.makeup(), ((0, 1), 5, 3))

    def test_signatures_by_kinds_in_order(self):
        job = page_job(12, ((2, 2, 5), (1, 2, 3)))
        self.assertEqual(job.makeup(), ((1, 1), 8, 0))
        self.assertEqual(sizes_of_signatures(job), [(2, 2), (1, 2)])
        self.assertEqual([job.numbers(0), job.numbers(1)], [[1, 2, 3, 4, 5, 6, 7, 8], [9, 10, 11, 12]])
        job = page_job(12, ((1, 2, 3), (2, 2, 5)))
        self.assertEqual(sizes_of_signatures(job), [(1, 2), (2, 2)])
        self.assertEqual([job.numbers(0), job.numbers(1)], [[1, 2, 3, 4], [5, 6, 7, 8, 9, 10, 11, 12]])

    def test_kinds_that_are_not_used(self):
        job = page_job(14, ((4, 4, 99), (1, 3, 4), (1, 4, 5), (2, 2, 9)))
        self.assertEqual(job.makeup(), ((0, 1, 1, 0), 9, 0))
        self.assertEqual(sizes_of_signatures(job), [(1, 3), (1, 4)])

    def test_pages_that_fill_a_signature_just_so_and_one_more(self):
        self.assertEqual(page_job(8, ((2, 2, 5),)).numbers(0), [1, 2, 3, 4, 5, 6, 7, 8])
        self.assertEqual(page_job(7, ((2, 2, 5),)).numbers(0), [1, 2, 3, 4, 5, 6, 7, 0])
        job = page_job(9, ((2, 2, 5),))
        self.assertEqual(job.signature_count(), 2)
        self.assertEqual([job.numbers(0), job.numbers(1)], [[1, 2, 3, 4, 5, 6, 7, 8], [9, 0, 0, 0, 0, 0, 0, 0]])

    def test_plans_are_halving_folds(self):
        job = page_job(13, ((3, 4, 1),))
        self.assertEqual(job.plan(0), [
            ("sheet", 3, 4), ("fold", "left", 2, "over"), ("fold", "left", 1, "over"),
            ("fold", "top", 1, "over"), ("fold", "top", 1, "over")])
        self.assertEqual(page_job(1, ((1, 1, 1),)).plan(0), [("sheet", 1, 1)])

    def test_sheets(self):
        job = page_job(3, ((1, 2, 1),))
        self.assertEqual(job.sheet(0), ((((2, False), (3, False)),), (((0, False), (1, False)),)))
        self.assertEqual(job.finish(0), [(1, False), (2, False), (3, False), (0, False)])
        job = page_job(4, ((2, 1, 1),))
        self.assertEqual(job.sheet(0), ((((2, True),), ((3, False),)), (((1, True),), ((4, False),))))

    def test_random_jobs(self):
        for seed in range(80):
            job = random_job(seed)
            self.assertEqual(job.makeup(), cheapest_makeup(job.kinds, len(job.pages())))
            counts = job.makeup()[0]
            self.assertEqual(sizes_of_signatures(job), [
                kind[:2] for kind, count in zip(job.kinds, counts) for _ in range(count)])
            numbers = []
            for signature in range(job.signature_count()):
                numbers.extend(job.numbers(signature))
                self.assertEqual([job.sheet(signature)], impose(job.plan(signature), job.numbers(signature)))
            pages = len(job.pages())
            self.assertEqual(numbers, list(range(1, pages + 1)) + [0] * job.makeup()[2])


class CopyTest(JobCase):
    def test_leaves(self):
        self.assertEqual(page_job(3, ((1, 2, 1),)).copy(), [((1, False), (2, False)), ((3, False), (0, False))])

    def test_every_page_upright_and_in_order(self):
        for job in [inks_job(), text_job()] + [random_job(seed) for seed in range(60)]:
            marks = [mark for leaf in job.copy() for mark in leaf]
            pages = len(job.pages())
            self.assertEqual(marks, [(number, False) for number in range(1, pages + 1)]
                             + [(0, False)] * job.makeup()[2])

    def test_it_is_what_a_bindery_reads(self):
        for seed in range(30):
            job, leaves = random_job(seed), []
            for signature in range(job.signature_count()):
                bindery = Bindery()
                bindery.place(job.sheet(signature))
                for step in job.plan(signature)[1:]:
                    bindery.work(step)
                marks = bindery.read()
                self.assertEqual(job.finish(signature), marks)
                self.assertEqual(marks, read_prints(job.plan(signature), [job.sheet(signature)]))
                paper, = carried_out(job.plan(signature), [job.sheet(signature)])
                self.assertEqual(marks, paper.marks())
                leaves.extend(zip(marks[::2], marks[1::2]))
            self.assertEqual(job.copy(), leaves)

    def test_all_kinds_of_signatures(self):
        for rows in range(1, 5):
            for columns in range(1, 5):
                job = page_job(2 * rows * columns + 1, ((rows, columns, 1),))
                self.assertEqual(job.signature_count(), 2)
                marks = [mark for leaf in job.copy() for mark in leaf]
                self.assertEqual(marks[:2 * rows * columns + 1],
                                 [(number, False) for number in range(1, 2 * rows * columns + 2)])

    def test_the_texts_of_the_drawings(self):
        job = text_job()
        found = []
        for leaf in job.copy():
            for number, _ in leaf:
                if number:
                    found.append([box[4] for box in read_drawing(job.pages()[number - 1][2])])
        self.assertEqual(found, [
            ["Inks", "ml", "red ink", "blue", "12"], ["Inks", "ml", "gold", ""], ["The end."]])


class LogTest(JobCase):
    def test_a_log(self):
        job = page_job(3, ((2, 1, 1),))
        self.assertEqual(job.log(), [
            (1, 0, 0, 0, "back", 0, 0, True), (2, 1, 0, 0, "front", 0, 0, True),
            (3, 2, 0, 0, "front", 1, 0, False)])

    def test_tables_with_several_pages_and_several_signatures(self):
        job = inks_job(((1, 2, 1),))
        self.assertEqual(job.log(), [
            (1, 0, 0, 0, "back", 0, 1, False), (2, 0, 1, 0, "front", 0, 0, False),
            (3, 0, 2, 0, "front", 0, 1, False), (4, 1, 0, 0, "back", 0, 0, False),
            (5, 2, 0, 1, "back", 0, 1, False)])

    def test_it_tells_where_the_marks_stand(self):
        for job in [inks_job(), text_job()] + [random_job(seed) for seed in range(60)]:
            wanted = []
            for signature, side, row_number, column_number, (page, is_rotated) in printed_marks(job):
                if page > 0:
                    table, page_of_table = job.pages()[page - 1][:2]
                    wanted.append((page, table, page_of_table, signature, side, row_number, column_number, is_rotated))
            self.assertEqual(job.log(), sorted(wanted))
            self.assertTrue(job.is_log(job.log()))
            self.assertEqual(len(job.log()), len(job.pages()))

    def test_logs_that_are_not(self):
        job = inks_job()
        log = job.log()
        self.assertIs(job.is_log(log), True)
        for place in range(len(log)):
            self.assertIs(job.is_log(log[:place] + log[place + 1:]), False)
            self.assertIs(job.is_log(log[:place] + [log[place]] + log[place:]), False)
            if place > 0:
                moved = log[:place] + log[place + 1:]
                self.assertIs(job.is_log([log[place]] + moved), False)
        self.assertIs(job.is_log([]), False)
        self.assertIs(job.is_log(log[::-1]), False)
        self.assertIs(job.is_log(log + [(0, 0, 0, 0, "front", 0, 0, False)]), False)
        self.assertIs(job.is_log(log + [(6, 9, 9, 9, "front", 9, 9, True)]), False)

    def test_logs_with_one_value_changed(self):
        job = inks_job()
        log = job.log()
        for place, entry in enumerate(log):
            for part, value in enumerate(entry):
                if isinstance(value, bool):
                    others = [not value]
                elif isinstance(value, int):
                    others = [value + 1, value + 100] + ([value - 1, 0] if value > 0 else [])
                else:
                    others = ["front" if value == "back" else "back", "", "left"]
                for other in others:
                    changed = entry[:part] + (other,) + entry[part + 1:]
                    self.assertIs(job.is_log(log[:place] + [changed] + log[place + 1:]), False)

    def test_the_log_of_another_job(self):
        self.assertIs(inks_job().is_log(inks_job(((4, 4, 1),)).log()), False)
        self.assertIs(inks_job().is_log(inks_job().log()), True)

    def test_a_log_of_no_pages(self):
        job = Job((), 10, 10, KINDS)
        self.assertIs(job.is_log([(1, 0, 0, 0, "front", 0, 0, False)]), False)


class ChangesTest(JobCase):
    def answers(self, job):
        found = [job.tables, job.kinds, job.pages(), job.makeup(), job.signature_count(), job.copy(), job.log()]
        for signature in range(job.signature_count()):
            found += [job.numbers(signature), job.plan(signature), job.sheet(signature), job.finish(signature)]
        return found

    def test_lists_that_are_returned_may_be_changed(self):
        job = inks_job()
        before = self.answers(job)
        for answer in self.answers(job):
            if isinstance(answer, list):
                self.assertTrue(answer)
                answer[0] = None
                answer.append(None)
                answer.reverse()
        pages = pages_of(TABLES, 13, 6)
        pages.clear()
        self.assertEqual(self.answers(job), before)
        self.assertEqual(self.answers(inks_job()), before)

    def test_lists_that_are_passed_may_be_changed(self):
        tables, kinds = list(TABLES), list(KINDS)
        job = Job(tables, 13, 6, kinds)
        tables.clear()
        kinds.clear()
        self.assertEqual(self.answers(job), self.answers(inks_job()))
        log = job.log()
        job.is_log(log)
        self.assertEqual(log, job.log())
        log.clear()
        self.assertEqual(self.answers(job), self.answers(inks_job()))

    def test_kinds_of_values(self):
        job = inks_job()
        for answer in (job.pages(), job.numbers(0), job.plan(0), job.finish(0), job.copy(), job.log()):
            self.assertIsInstance(answer, list)
        self.assertEqual({type(part) for answer in (job.pages(), job.plan(0), job.copy(), job.log())
                          for part in answer}, {tuple})
        self.assertEqual({type(page[2]) for page in job.pages()}, {tuple})
        self.assertIsInstance(job.makeup(), tuple)
        self.assertIsInstance(job.sheet(0), tuple)

    def test_two_jobs_are_apart(self):
        first, second = inks_job(), text_job()
        self.assertEqual(self.answers(first), self.answers(inks_job()))
        self.assertEqual(self.answers(second), self.answers(text_job()))
        self.assertNotEqual(first.pages(), second.pages())


if __name__ == "__main__":
    unittest.main()
