"""Word lists: point 49."""

import re
import unittest

from boundbook.pipeline import Job
from boundbook.wordlist import leaves_with, word_list, write_word_list
from jobs import HEADS, INKS, KINDS, SPANS, THREADS, inks_job, page_job, random_job, text_job
from support import column, head, row, table_of

TWICE = table_of([column(), column()], [row(), row()], [["red", "red red"], ["red", ""]])


def words_on(drawing):
    """The words of a drawing, line by line, without its borders."""
    return {word for line in drawing if not re.fullmatch(r"[+|-]*", line)
            for word in re.split(r"[ |+-]+", line) if word}


def plain_list(job):
    found = {}
    for number, (_, _, drawing) in enumerate(job.pages(), start=1):
        for word in words_on(drawing):
            found.setdefault(word, []).append(number)
    return sorted(found.items())


class WordListTest(unittest.TestCase):
    def test_words_and_pages(self):
        self.assertEqual(word_list(inks_job()), [
            ("12", [2]), ("3", [3]), ("7", [1]), ("A4", [5]), ("Inks", [1, 2, 3]), ("Paper", [5]), ("blue", [2]),
            ("cm", [5]), ("gold", [3]), ("ink", [2]), ("ml", [1, 2, 3]), ("red", [1, 4]), ("thread", [4]),
            ("wax", [4])])

    def test_its_text(self):
        self.assertEqual(write_word_list(inks_job()), "\n".join([
            "12 2", "3 3", "7 1", "A4 5", "Inks 1,2,3", "Paper 5", "blue 2", "cm 5", "gold 3", "ink 2", "ml 1,2,3",
            "red 1,4", "thread 4", "wax 4"]))

    def test_no_words(self):
        for tables in ((), (table_of([column()], [row()], [[""]]),)):
            job = Job(tables, 9, 9, KINDS)
            self.assertEqual((word_list(job), write_word_list(job)), ([], ""))

    def test_a_word_twice_on_one_page(self):
        job = Job((TWICE,), 20, 20, KINDS)
        self.assertEqual(word_list(job), [("red", [1])])
        self.assertEqual(leaves_with(job, "red"), [(0, "above", 1)])

    def test_capitals_come_first(self):
        table = table_of([column()], [row()], [["b a B A"]])
        self.assertEqual([word for word, _ in word_list(Job((table,), 20, 20, KINDS))], ["A", "B", "a", "b"])

    def test_signs_of_words(self):
        table = table_of([column()], [row(), row()], [["a/b (x) 'y' z!"], ["1.5 ? ;: a/b"]])
        self.assertEqual([word for word, _ in word_list(Job((table,), 40, 20, KINDS))],
                         sorted(["a/b", "(x)", "'y'", "z!", "1.5", "?", ";:"]))

    def test_words_in_wrapped_lines_and_over_places(self):
        self.assertEqual(word_list(Job((SPANS,), 9, 20, KINDS)),
                         [("all", [1]), ("red", [1]), ("x", [1]), ("y", [1])])

    def test_two_digits(self):
        table = table_of([column()], [row()], [["all"]])
        job = Job((table,) * 11, 9, 9, KINDS)
        self.assertEqual(write_word_list(job), "all 1,2,3,4,5,6,7,8,9,10,11")

    def test_line_by_line(self):
        for job in [inks_job(), text_job()] + [random_job(seed) for seed in range(80)]:
            self.assertEqual(word_list(job), plain_list(job))


class LeavesTest(unittest.TestCase):
    def test_a_word_on_several_pages(self):
        self.assertEqual(leaves_with(inks_job(), "red"), [(0, "above", 1), (1, "below", 4)])
        job = Job((THREADS, THREADS, INKS), 13, 6, ((1, 1, 1),))
        self.assertEqual(leaves_with(job, "red"), [(0, "above", 1), (0, "below", 2), (1, "above", 3)])

    def test_a_word_in_a_repeated_head(self):
        self.assertEqual(leaves_with(inks_job(), "Inks"), [(0, "above", 1), (0, "below", 2), (1, "above", 3)])

    def test_a_word_that_stands_nowhere(self):
        for word in ("green", "", " ", "Ink", "inks", "blue ink", "ed", "+", "|", "-", "--------", "0"):
            self.assertEqual(leaves_with(inks_job(), word), [])
        self.assertEqual(leaves_with(Job((), 9, 9, KINDS), "red"), [])

    def test_several_signatures(self):
        job = page_job(12, ((2, 2, 5), (1, 2, 3)))
        self.assertEqual([leaves_with(job, f"w{number}") for number in (0, 7, 8, 11)],
                         [[(0, "above", 1)], [(3, "below", 8)], [(4, "above", 9)], [(5, "below", 12)]])

    def test_where_the_marks_stand_in_a_copy(self):
        for seed in range(40):
            job = random_job(seed)
            for word, pages in word_list(job):
                wanted = []
                for leaf, (above, below) in enumerate(job.copy()):
                    wanted += [(leaf, "above", above[0])] if above[0] in pages else []
                    wanted += [(leaf, "below", below[0])] if below[0] in pages else []
                self.assertEqual(leaves_with(job, word), wanted)
                self.assertEqual([entry[2] for entry in wanted], pages)


class ChangesTest(unittest.TestCase):
    def test_answers_may_be_changed(self):
        job = inks_job()
        words, leaves, pages = word_list(job), leaves_with(job, "red"), job.pages()
        changed = word_list(job)
        for _, numbers in changed:
            self.assertIsInstance(numbers, list)
            numbers.clear()
        changed.clear()
        leaves_with(job, "red").clear()
        self.assertEqual((word_list(job), leaves_with(job, "red"), job.pages()), (words, leaves, pages))
        self.assertEqual({type(entry) for entry in words + leaves}, {tuple})


if __name__ == "__main__":
    unittest.main()
