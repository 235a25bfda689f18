"""Misprints: wrong marks in a copy, and how its signatures came to be read so (points 46 and 47)."""

from boundbook.bindery import finished_marks
from boundbook.errors import Refused
from boundbook.imposition import faces
from boundbook.reading import marks_in, wanted_marks

# About which the finished packet is turned in the end, in the order in which they are preferred.
AXES = ("", "vertical", "horizontal", "both")


def printed_places(job):
    """Return for each place of a copy where its mark was printed, in reading order."""
    places = []
    for signature in range(job.signature_count()):
        places.extend([(signature,) + face[1:4] for face in faces(job.plan(signature))])
    return places


def check_length(job, copy):
    """Raise Refused unless a copy has as many leaves as a good one."""
    if 2 * len(copy) != len(wanted_marks(job)):
        raise Refused("copy has another length")


def wrong_marks(job, copy):
    """Return the wrong marks of a copy: place, wanted mark, found mark, and where it was printed."""
    check_length(job, copy)
    wanted = wanted_marks(job)
    found = marks_in(copy)
    wrong = []
    for place, where in enumerate(printed_places(job)):
        if wanted[place] != found[place]:
            wrong.append((place, wanted[place], found[place], where))
    return wrong


def selections(count):
    """Return the list of all ascending tuples of numbers below count."""
    found = [()]
    for number in range(count):
        found = found + [numbers + (number,) for numbers in found]
    return found


def changed_steps(folds, changed, axis):
    """Return the folds, those with the changed numbers under instead of over, and the turn in the end."""
    steps = []
    for number, (word, edge, line, way) in enumerate(folds):
        steps.append((word, edge, line, "under" if number in changed else way))
    return steps + [("turn", axis)] if axis else steps


def ways_to_finish(job, signature):
    """Return for each way to finish a signature (changed folds, number of axis) the marks that are read."""
    sheet = job.sheet(signature)
    folds = job.plan(signature)[1:]
    found = []
    for changed in selections(len(folds)):
        for number, axis in enumerate(AXES):
            marks = finished_marks(sheet, changed_steps(folds, changed, axis))
            found.append(((changed, number), marks))
    return found


def account_of(signature, others, marks):
    """Return the account of a signature by which the marks are read, or None.

    The others are all signatures of the same size, each with its ways to be finished.
    """
    accounts = []
    for other, ways in others:
        for (changed, axis), read in ways:
            if read == marks:
                is_other = other != signature
                cost = len(changed) + int(axis > 0) + int(is_other)
                accounts.append((cost, is_other, other, changed, axis))
    if not accounts:
        return None
    _, _, other, changed, axis = min(accounts)
    return (other, changed, AXES[axis])


def accounts_of(job, copy):
    """Return for each signature the account by which the copy is explained, or None."""
    check_length(job, copy)
    sheets = [job.plan(signature)[0] for signature in range(job.signature_count())]
    ways = [ways_to_finish(job, signature) for signature in range(job.signature_count())]
    marks = marks_in(copy)
    accounts = []
    first = 0
    for signature, sheet in enumerate(sheets):
        behind = first + len(job.numbers(signature))
        others = [(other, ways[other]) for other in range(len(sheets)) if sheets[other] == sheet]
        accounts.append(account_of(signature, others, marks[first:behind]))
        first = behind
    return accounts
