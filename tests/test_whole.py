"""The whole program: points 1 to 4."""

import itertools
import random
import unittest

from boundbook.bindery import Bindery
from boundbook.contents import contents, signatures_of, table_on, write_contents
from boundbook.finishing import cheapest_moves, finishing_order
from boundbook.imposition import read_prints
from boundbook.manuscripts import read_manuscript, write_manuscript
from boundbook.misprints import accounts_of, wrong_marks
from boundbook.pages import paginate
from boundbook.pipeline import Job, pages_of
from boundbook.plans import leaf_order
from boundbook.proofs import read_print, write_print
from boundbook.reading import is_good, read_copy, texts_of, wanted_marks
from boundbook.reprints import changed_pages, reprint_cost, reprints
from boundbook.wordlist import leaves_with, word_list, write_word_list
from jobs import (KINDS, TABLES, TEXT, changed_print, inks_job, page_job, printed_marks, random_job, random_kinds,
                  random_tables, text_job)
from support import all_layouts, random_table, size_of


def bound(sheets, job):
    """The leaves of a copy that is made of other sheets in the same way."""
    leaves = []
    for signature, sheet in enumerate(sheets):
        bindery = Bindery()
        bindery.place(sheet)
        for step in job.plan(signature)[1:]:
            bindery.work(step)
        marks = bindery.read()
        leaves.extend(zip(marks[::2], marks[1::2]))
    return leaves


def sheets_of_job(job):
    return [job.sheet(signature) for signature in range(job.signature_count())]


class WholeWayTest(unittest.TestCase):
    def test_from_a_text_to_a_copy_and_back(self):
        for page_height in (7, 9, 30):
            for kinds in (KINDS, ((1, 1, 1),), ((4, 4, 9),), ((3, 2, 4), (1, 1, 1))):
                tables = read_manuscript(TEXT)
                job = Job(tables, 20, page_height, kinds)
                sheets = [read_print(write_print(sheet)) for sheet in sheets_of_job(job)]
                copy = bound(sheets, job)
                self.assertEqual(copy, job.copy())
                self.assertEqual(read_copy(job, copy), [
                    ["Inks", "ml", "red ink", "blue", "12", "gold", ""], ["The end."]])
                self.assertEqual(wrong_marks(job, copy), [])

    def test_random_manuscripts(self):
        for seed in range(60):
            rng = random.Random(seed)
            max_width, page_height = rng.randint(12, 30), rng.randint(6, 12)
            text = write_manuscript(random_tables(seed, rng.randint(0, 3), max_width, page_height))
            tables = read_manuscript(text)
            job = Job(tables, max_width, page_height, random_kinds(rng))
            copy = bound([read_print(write_print(sheet)) for sheet in sheets_of_job(job)], job)
            self.assertEqual(read_copy(job, copy), texts_of(tables))
            self.assertEqual(write_manuscript(job.tables), text)

    def test_every_page_upright_and_in_order(self):
        for seed in range(60):
            job = random_job(seed)
            pages = len(job.pages())
            marks = [mark for leaf in job.copy() for mark in leaf]
            self.assertEqual(marks[:pages], [(number, False) for number in range(1, pages + 1)])
            self.assertEqual(set(marks[pages:]) - {(0, False)}, set())

    def test_the_log_the_contents_and_the_words_agree(self):
        for seed in range(40):
            job = random_job(seed)
            log = job.log()
            self.assertEqual([table_on(job, entry[0]) for entry in log], [entry[1:3] for entry in log])
            for table, first, last in contents(job):
                entries = [entry for entry in log if entry[1] == table]
                self.assertEqual((entries[0][0], entries[-1][0]), (first, last))
                self.assertEqual(signatures_of(job, table), sorted({entry[3] for entry in entries}))
            for word, pages in word_list(job):
                self.assertEqual([entry[2] for entry in leaves_with(job, word)], pages)

    def test_no_layout_needs_fewer_pages(self):
        for seed in range(60):
            rng = random.Random(seed)
            table = random_table(seed, rng.randint(1, 2), rng.randint(1, 2))
            page_height = rng.randint(3, 8)
            divided = [paginate(table, layout[1], page_height) for layout in all_layouts(table, 13, 9)
                       if size_of(layout)[0] <= 14]
            counts = [len(pages) for pages in divided if pages is not None]
            if counts:
                self.assertEqual(len(pages_of((table,), 14, page_height)), min(counts))

    def test_no_other_makeup_is_cheaper(self):
        for seed in range(40):
            job = random_job(seed)
            many = [2 * rows * columns for rows, columns, _ in job.kinds]
            pages = len(job.pages())
            found = [
                (sum(count * kind[2] for count, kind in zip(counts, job.kinds)), total - pages)
                for counts in itertools.product(*[range(-(-pages // one) + 1) for one in many])
                for total in [sum(count * one for count, one in zip(counts, many))] if total >= pages]
            self.assertEqual(job.makeup()[1:], min(found))


class PrintingTest(unittest.TestCase):
    def test_no_other_printing_of_one_mark(self):
        for job in (inks_job(), text_job(), page_job(5, ((1, 2, 1),)), page_job(3, ((1, 1, 1),)),
                    page_job(12, ((3, 2, 1),))):
            sheets, copy = sheets_of_job(job), job.copy()
            for signature, side, row_number, column_number, (page, is_rotated) in printed_marks(job):
                for other in ((page, not is_rotated), (page + 1, is_rotated), (9999, is_rotated), (9999, not is_rotated)):
                    place = (("front", "back").index(side), row_number, column_number)
                    changed = changed_print(sheets[signature], *place, other)
                    spoiled = bound(sheets[:signature] + [changed] + sheets[signature + 1:], job)
                    self.assertNotEqual(spoiled, copy)
                    self.assertFalse(is_good(job, spoiled))
                    self.assertEqual(len(wrong_marks(job, spoiled)), 1)
                    self.assertEqual(wrong_marks(job, spoiled)[0][3], (signature, side, row_number, column_number))

    def test_of_all_printings_of_a_sheet_one_gives_the_copy(self):
        for kind in ((1, 2, 1), (2, 1, 1)):
            job = page_job(4, (kind,))
            good = []
            for pages in itertools.permutations(range(1, 5)):
                for turns in itertools.product((False, True), repeat=4):
                    marks = list(zip(pages, turns))
                    sheet = tuple(tuple(tuple(side[r * kind[1]:(r + 1) * kind[1]]) for r in range(kind[0]))
                                  for side in (marks[:2], marks[2:]))
                    if bound([sheet], job) == job.copy():
                        good.append(sheet)
            self.assertEqual(good, [job.sheet(0)])

    def test_printed_sheets_are_finished_into_the_book(self):
        for seed in range(30):
            job = random_job(seed)
            for signature in range(job.signature_count()):
                numbers, sheet, plan = job.numbers(signature), job.sheet(signature), job.plan(signature)
                self.assertEqual(read_prints(plan, [sheet]), [(number, False) for number in numbers])
                order = finishing_order([sheet], numbers)
                if 0 not in numbers:
                    self.assertEqual(order, list(leaf_order(plan)))
                if len(numbers) <= 12:
                    moves, cost = cheapest_moves(sheet, numbers, 2, 3)
                    self.assertLessEqual(cost, 2 * (len(plan) - 1))
                    self.assertEqual(read_prints(plan[:1] + moves, [sheet]), [(number, False) for number in numbers])


class ChangesTest(unittest.TestCase):
    """Point 4: whatever is changed outside, the answers of jobs stay as they were."""

    def answers(self, job, other):
        copy = job.copy()
        found = [
            job.pages(), copy, job.log(), wanted_marks(job), is_good(job, copy), read_copy(job, copy),
            texts_of(job.tables), wrong_marks(job, copy[::-1]), accounts_of(job, copy), changed_pages(job, other),
            list(reprints(job, other)), reprint_cost(job, other), word_list(job), write_word_list(job),
            leaves_with(job, "red"), contents(job), write_contents(job), signatures_of(job, 0),
        ]
        for signature in range(job.signature_count()):
            found += [job.numbers(signature), job.plan(signature), job.finish(signature), job.sheet(signature)]
        return found

    def spoil(self, answer):
        """Change a list and all lists in it."""
        if isinstance(answer, (list, tuple)):
            for part in answer:
                self.spoil(part)
        if isinstance(answer, list):
            answer.append(None)
            answer.reverse()
            answer[-1] = None

    def test_all_that_is_returned_and_passed(self):
        tables, kinds = list(TABLES), list(KINDS)
        job, other = Job(tables, 13, 6, kinds), text_job()
        before = self.answers(job, other)
        self.spoil(tables)
        self.spoil(kinds)
        self.assertEqual(self.answers(job, other), before)
        self.spoil(self.answers(job, other))
        self.assertEqual(self.answers(job, other), before)
        self.assertEqual(self.answers(inks_job(), text_job()), before)

    def test_copies_logs_and_pages_that_are_passed(self):
        job = inks_job()
        copy, log = job.copy(), job.log()
        kept = (list(copy), list(log))
        for call in (is_good, read_copy, wrong_marks, accounts_of):
            call(job, copy)
        job.is_log(log)
        self.assertEqual((copy, log), kept)
        self.spoil(copy)
        self.spoil(log)
        self.assertTrue(is_good(job, kept[0]))
        self.assertTrue(job.is_log(kept[1]))
        self.assertEqual((job.copy(), job.log()), kept)


if __name__ == "__main__":
    unittest.main()
