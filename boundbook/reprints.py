"""Changed manuscripts: which pages differ, and which signatures are printed again (point 48)."""

from boundbook.pipeline import kinds_of_signatures


def drawings_in(job):
    """Return the list of the drawings of the pages of a job."""
    return [page[2] for page in job.pages()]


def changed_pages(old, new):
    """Return the ascending numbers of the pages of the new job that the old one does not have so."""
    old_drawings = drawings_in(old)
    found = []
    for number, drawing in enumerate(drawings_in(new), start=1):
        if number > len(old_drawings) or old_drawings[number - 1] != drawing:
            found.append(number)
    return found


def signature_kinds(job):
    """Return the list of the kinds of the signatures of a job."""
    return kinds_of_signatures(job.kinds, job.makeup()[0])


def shown(job):
    """Return for each signature of a job what it shows: its size, and the drawings of its pages."""
    drawings = drawings_in(job)
    found = []
    for signature, kind in enumerate(signature_kinds(job)):
        numbers = [number for number in job.numbers(signature) if number > 0]
        found.append((kind[:2], [drawings[number - 1] for number in numbers]))
    return found


def reprints(old, new):
    """Return the pairs of old and new signatures that are kept, and the new ones that are printed."""
    old_shown = shown(old)
    free = list(range(len(old_shown)))
    kept = []
    printed = []
    for signature, wanted in enumerate(shown(new)):
        same = [other for other in free if old_shown[other] == wanted]
        if same:
            free.remove(same[0])
            kept.append((same[0], signature))
        else:
            printed.append(signature)
    return (kept, printed)


def reprint_cost(old, new):
    """Return the sum of the costs of the kinds of the signatures that are printed."""
    kinds = signature_kinds(new)
    return sum([kinds[signature][2] for signature in reprints(old, new)[1]])
