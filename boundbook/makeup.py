"""Make-up: which signatures a book consists of (point 37)."""


def page_count(kind):
    """Return how many pages a signature of this kind has."""
    return 2 * kind[0] * kind[1]


def makeup_of(kinds, counts, pages):
    """Return the make-up with these counts for so many pages, or None if they are too few."""
    many = sum([count * page_count(kind) for kind, count in zip(kinds, counts)])
    if many < pages:
        return None
    cost = sum([count * kind[2] for kind, count in zip(kinds, counts)])
    return (tuple(counts), cost, many - pages)


def one_more(counts, place):
    """Return the counts with one signature more of the kind at a place."""
    return counts[:place] + (counts[place] + 1,) + counts[place + 1:]


def preference(makeup):
    """Return the key by which the cheapest make-up is chosen."""
    counts, cost, blanks = makeup
    return (cost, blanks, [-count for count in counts])


def cheapest_makeup(kinds, pages):
    """Return the cheapest make-up for so many pages."""
    # Without any of its signatures the cheapest make-up has too few pages, as each one costs
    # something: what is left is the cheapest one for the pages that this one is not needed for.
    cheapest = [(0,) * len(kinds)]
    for many in range(1, pages + 1):
        makeups = []
        for place, kind in enumerate(kinds):
            others = cheapest[max(0, many - page_count(kind))]
            makeups.append(makeup_of(kinds, one_more(others, place), many))
        cheapest.append(min(makeups, key=preference)[0])
    return makeup_of(kinds, cheapest[pages], pages)
