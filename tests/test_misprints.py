"""Wrong marks and accounts: points 46 and 47."""

import itertools
import random
import unittest

from boundbook.errors import BookError, Refused
from boundbook.misprints import accounts_of, wrong_marks
from boundbook.pipeline import Job
from jobs import KINDS, inks_job, page_job, random_job, random_kinds
from paper import carried_out

AXES = ("", "vertical", "horizontal", "both")


class JobWithNumbers(Job):
    """A job some of whose signatures have been given other pages, or another plan."""

    def __init__(self, others, pages, kinds, plans=None):
        job = page_job(pages, kinds)
        super().__init__(job.tables, 20, 20, kinds)
        self.others = others
        self.plans = plans or {}

    def numbers(self, signature):
        return list(self.others.get(signature, super().numbers(signature)))

    def plan(self, signature):
        return list(self.plans.get(signature, super().plan(signature)))


def leaves_of(marks):
    return list(zip(marks[::2], marks[1::2]))


def finished(job, signature, changed=(), axis=""):
    """The marks of a signature that is finished so, read off paper."""
    sheet, *folds = job.plan(signature)
    plan = [sheet] + [fold[:3] + ("under" if number in changed else "over",) for number, fold in enumerate(folds)]
    paper, = carried_out(plan + ([("turn", axis)] if axis else []), [job.sheet(signature)])
    return paper.marks()


def copy_with(job, accounts):
    """A copy of a job whose signatures come about by these accounts."""
    marks = []
    for account in accounts:
        marks += finished(job, *account)
    return leaves_of(marks)


def all_accounts(job, signature):
    """All accounts of a signature, the preferred ones first, each with its marks."""
    found = []
    for other in range(job.signature_count()):
        if job.plan(other)[0] == job.plan(signature)[0]:
            folds = len(job.plan(other)) - 1
            for count in range(folds + 1):
                for changed in itertools.combinations(range(folds), count):
                    for axis in AXES:
                        cost = count + (axis != "") + (other != signature)
                        key = (cost, other != signature, other, changed, AXES.index(axis))
                        found.append((key, (other, changed, axis), finished(job, other, changed, axis)))
    return sorted(found)


def plain_accounts(job, copy):
    marks = [mark for leaf in copy for mark in leaf]
    found = []
    for signature in range(job.signature_count()):
        many = len(job.numbers(signature))
        fitting = [account for _, account, read in all_accounts(job, signature) if read == marks[:many]]
        found.append(fitting[0] if fitting else None)
        marks = marks[many:]
    return found


class MisprintsCase(unittest.TestCase):
    def raises(self, what, call, *arguments):
        with self.assertRaises(Refused) as caught:
            call(*arguments)
        self.assertEqual(caught.exception.what, what)
        self.assertIsInstance(caught.exception, BookError)


class WrongMarksTest(MisprintsCase):
    def test_a_good_copy(self):
        for job in [inks_job(), Job((), 9, 9, KINDS)] + [random_job(seed) for seed in range(20)]:
            self.assertEqual(wrong_marks(job, job.copy()), [])

    def test_one_mark(self):
        job = page_job(3, ((1, 2, 1),))
        copy = job.copy()
        copy[1] = ((9, False), (0, False))
        self.assertEqual(wrong_marks(job, copy), [(2, (3, False), (9, False), (0, "front", 0, 1))])

    def test_a_rotated_mark(self):
        job = page_job(3, ((1, 2, 1),))
        copy = job.copy()
        copy[1] = ((3, False), (0, True))
        self.assertEqual(wrong_marks(job, copy), [(3, (0, False), (0, True), (0, "back", 0, 0))])

    def test_two_marks(self):
        job = page_job(3, ((2, 1, 1),))
        copy = job.copy()
        copy[0] = ((2, False), (1, False))
        self.assertEqual(wrong_marks(job, copy), [
            (0, (1, False), (2, False), (0, "back", 0, 0)), (1, (2, False), (1, False), (0, "front", 0, 0))])

    def test_a_whole_signature(self):
        job = page_job(12, ((2, 2, 5), (1, 2, 3)))
        copy = copy_with(job, [(0, (), ""), (1, (), "both")])
        self.assertEqual(wrong_marks(job, copy), [
            (8, (9, False), (9, True), (1, "back", 0, 1)), (9, (10, False), (10, True), (1, "front", 0, 0)),
            (10, (11, False), (11, True), (1, "front", 0, 1)), (11, (12, False), (12, True), (1, "back", 0, 0))])

    def test_all_marks_of_random_copies(self):
        for seed in range(60):
            rng, job = random.Random(seed), random_job(seed)
            marks = [mark for leaf in job.copy() for mark in leaf]
            found = [mark if rng.random() < 0.6 else (rng.randrange(4), rng.random() < 0.5) for mark in marks]
            told = wrong_marks(job, leaves_of(found))
            self.assertEqual([entry[0] for entry in told],
                             [place for place in range(len(marks)) if marks[place] != found[place]])
            for place, wanted, seen, (signature, side, row_number, column_number) in told:
                self.assertEqual((wanted, seen), (marks[place], found[place]))
                self.assert_printed_there(job, place, signature, side, row_number, column_number)

    def assert_printed_there(self, job, place, *where):
        """Another mark at this place of the sheet changes just this place of the copy."""
        signature, side, row_number, column_number = where
        first = sum(len(job.numbers(other)) for other in range(signature))
        sides = [[list(line) for line in rows] for rows in job.sheet(signature)]
        sides[("front", "back").index(side)][row_number][column_number] = (9999, False)
        paper, = carried_out(job.plan(signature), [sides])
        self.assertEqual([number for number, mark in enumerate(paper.marks(), start=first) if mark[0] == 9999],
                         [place])

    def test_another_length(self):
        job = inks_job()
        copy = job.copy()
        blank = ((0, False), (0, False))
        for other in ([], copy[:-1], copy + [blank], copy + copy):
            self.raises("copy has another length", wrong_marks, job, other)
            self.raises("copy has another length", accounts_of, job, other)
        for call in (wrong_marks, accounts_of):
            self.assertEqual(call(Job((), 9, 9, KINDS), []), [])
            self.raises("copy has another length", call, Job((), 9, 9, KINDS), [blank])


class AccountsTest(MisprintsCase):
    def test_a_good_copy(self):
        self.assertEqual(accounts_of(inks_job(), inks_job().copy()), [(0, (), "")])
        job = page_job(12, ((2, 2, 5), (1, 2, 3)))
        self.assertEqual(accounts_of(job, job.copy()), [(0, (), ""), (1, (), "")])

    def test_each_account_is_found_again(self):
        job = page_job(24, ((2, 2, 1),))
        for other in range(3):
            for changed in ((), (0,), (1,), (0, 1)):
                for axis in AXES:
                    accounts = [(0, (), ""), (other, changed, axis), (2, (), "")]
                    self.assertEqual(accounts_of(job, copy_with(job, accounts)), accounts)

    def test_all_of_it_at_once(self):
        job = page_job(32, ((2, 4, 1),))
        accounts = [(1, (0, 2), "horizontal"), (0, (0, 1, 2), "both")]
        self.assertEqual(accounts_of(job, copy_with(job, accounts)), accounts)
        accounts = [(0, (2,), "vertical"), (0, (), "")]
        self.assertEqual(accounts_of(job, copy_with(job, accounts)), accounts)

    def test_one_panel(self):
        job = page_job(4, ((1, 1, 1),))
        for axis in AXES:
            for other in (0, 1):
                accounts = [(other, (), axis), (1, (), "")]
                self.assertEqual(accounts_of(job, copy_with(job, accounts)), accounts)

    def test_four_folds(self):
        job = page_job(32, ((4, 4, 1),))
        for changed in ((), (3,), (0, 2), (1, 2, 3), (0, 1, 2, 3)):
            copy = copy_with(job, [(0, changed, "vertical")])
            self.assertEqual(accounts_of(job, copy), [(0, changed, "vertical")])

    def test_only_signatures_of_the_same_size(self):
        job = page_job(6, ((1, 2, 2), (1, 1, 1)))
        self.assertEqual([job.numbers(0), job.numbers(1)], [[1, 2, 3, 4], [5, 6]])
        marks = [(page, False) for page in (5, 6, 1, 2, 3, 4)]
        self.assertEqual(accounts_of(job, leaves_of(marks)), [None, None])
        job = page_job(16, ((1, 4, 1),))
        self.assertEqual(accounts_of(job, job.copy()[4:] + job.copy()[:4]), [(1, (), ""), (0, (), "")])

    def test_as_many_panels_in_another_shape(self):
        high = [("sheet", 2, 1), ("fold", "top", 1, "over")]
        job = JobWithNumbers({}, 12, ((1, 2, 1),), {1: high})
        copy = job.copy()
        self.assertEqual(accounts_of(job, copy), [(0, (), ""), (1, (), ""), (2, (), "")])
        self.assertEqual(accounts_of(job, copy[2:4] + copy[:2] + copy[4:]), [None, None, (2, (), "")])
        self.assertEqual(accounts_of(job, copy[4:] + copy[2:4] + copy[:2]), [(2, (), ""), (1, (), ""), (0, (), "")])
        for edge, size in (("left", (1, 4)), ("top", (4, 1))):
            longer = [("sheet", *size), ("fold", edge, 2, "over"), ("fold", edge, 1, "over")]
            job = JobWithNumbers({}, 16, ((2, 2, 1),), {1: longer})
            self.assertEqual(accounts_of(job, job.copy()[4:] + job.copy()[:4]), [None, None])

    def test_a_signature_that_no_account_explains(self):
        job = page_job(24, ((2, 2, 1),))
        copy = job.copy()
        copy[5] = ((99, False), copy[5][1])
        self.assertEqual(accounts_of(job, copy), [(0, (), ""), None, (2, (), "")])
        copy = job.copy()
        copy[0], copy[1] = copy[1], copy[0]
        self.assertEqual(accounts_of(job, copy)[1:], [(1, (), ""), (2, (), "")])
        copy[8] = (copy[8][0], (copy[8][1][0], True))
        self.assertEqual(accounts_of(job, copy)[1:], [(1, (), ""), None])

    def test_folds_that_read_the_same(self):
        # The only leaf with pages lies in the middle, whichever of the two folds is made under.
        job = page_job(2, ((1, 3, 1),))
        self.assertEqual(finished(job, 0, (0,)), finished(job, 0, (1,)))
        self.assertEqual(accounts_of(job, copy_with(job, [(0, (1,), "")])), [(0, (0,), "")])
        self.assertEqual(accounts_of(job, copy_with(job, [(0, (1,), "both")])), [(0, (0,), "both")])

    def test_the_own_signature_then_the_least_number(self):
        pages = [1, 2, 3, 4]
        job = JobWithNumbers({signature: pages for signature in range(4)}, 16, ((1, 2, 1),))
        copy = job.copy()
        self.assertEqual(accounts_of(job, copy), [(number, (), "") for number in range(4)])
        job = JobWithNumbers({0: [5, 6, 7, 8], 1: pages, 2: pages}, 16, ((1, 2, 1),))
        copy = copy_with(job, [(1, (), ""), (1, (), ""), (1, (), ""), (2, (), "")])
        self.assertEqual(accounts_of(job, copy), [(1, (), ""), (1, (), ""), (2, (), ""), (1, (), "")])

    def test_of_one_cost_the_own_signature(self):
        # Turned itself, or the sheet of the other signature as it is.
        job = JobWithNumbers({0: [1, 2], 1: [2, 1]}, 4, ((1, 1, 1),))
        copy = leaves_of([(2, False), (1, False)] * 2)
        self.assertEqual(accounts_of(job, copy), [(0, (), "vertical"), (1, (), "")])

    def test_of_one_cost_the_fewer_signatures_before_folds(self):
        # The own folds (1,) come before those of another signature, which are none.
        job = JobWithNumbers({0: [1, 2, 0, 0, 0, 0], 1: [0, 0, 1, 2, 0, 0]}, 12, ((1, 3, 1),))
        copy = leaves_of([(page, False) for page in (0, 0, 1, 2, 0, 0) * 2])
        self.assertEqual(accounts_of(job, copy), [(0, (0,), ""), (1, (), "")])

    def test_of_one_cost_the_first_axis(self):
        job = JobWithNumbers({0: [0] * 4}, 4, ((1, 2, 1),))
        self.assertEqual(accounts_of(job, leaves_of([(0, True)] * 4)), [(0, (), "horizontal")])
        self.assertEqual(accounts_of(job, leaves_of([(0, False)] * 4)), [(0, (), "")])

    def test_folds_before_the_axis(self):
        # The fold under, or a turn in the end: without changed folds the tuple of them is the least.
        job = JobWithNumbers({0: [1, 1, 2, 2]}, 4, ((1, 2, 1),))
        copy = leaves_of([(page, False) for page in (2, 2, 1, 1)])
        self.assertEqual(finished(job, 0, (0,)), finished(job, 0, (), "vertical"))
        self.assertEqual(accounts_of(job, copy), [(0, (), "vertical")])

    def test_plain_search(self):
        for seed in range(60):
            rng = random.Random(seed)
            kinds = tuple(kind for kind in random_kinds(rng) if kind[0] * kind[1] <= 8) or ((1, 2, 1),)
            job = page_job(rng.randint(1, 14), kinds)
            accounts = []
            for signature in range(job.signature_count()):
                accounts.append(rng.choice(all_accounts(job, signature))[1])
            copy = copy_with(job, accounts)
            found = accounts_of(job, copy)
            self.assertEqual(found, plain_accounts(job, copy))
            self.assertEqual(copy_with(job, found), copy)

    def test_plain_search_with_pages_that_repeat(self):
        for seed in range(60):
            rng = random.Random(seed)
            kind = rng.choice(((1, 2, 1), (1, 3, 1), (2, 2, 1), (3, 1, 1)))
            many = 2 * kind[0] * kind[1]
            others = {number: [rng.choice((0, 0, 1)) for _ in range(many)] for number in range(3)}
            job = JobWithNumbers(others, 3 * many, (kind,))
            accounts = [rng.choice(all_accounts(job, signature))[1] for signature in range(3)]
            copy = copy_with(job, accounts)
            if rng.random() < 0.2:
                copy[0] = ((1, True), copy[0][1])
            self.assertEqual(accounts_of(job, copy), plain_accounts(job, copy))


class ChangesTest(MisprintsCase):
    def test_arguments_stay_and_answers_may_be_changed(self):
        job = page_job(8, ((1, 2, 1),))
        copy = copy_with(job, [(0, (0,), ""), (1, (), "")])
        kept = list(copy)
        for call in (wrong_marks, accounts_of):
            answer = call(job, copy)
            before = list(answer)
            self.assertTrue(before)
            self.assertEqual([type(answer), *{type(part) for part in answer}], [list, tuple])
            answer.clear()
            self.assertEqual(call(job, copy), before)
        self.assertEqual(copy, kept)
        copy.clear()
        self.assertEqual(wrong_marks(job, job.copy()), [])


if __name__ == "__main__":
    unittest.main()
