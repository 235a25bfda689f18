"""The contents of a job: on which pages and in which signatures its tables stand (point 49)."""


def numbers_of(job, table):
    """Return the ascending list of the numbers of the pages of a table."""
    return [number for number, page in enumerate(job.pages(), start=1) if page[0] == table]


def contents(job):
    """Return for each table its number, and the numbers of its first and its last page."""
    found = []
    for table in range(len(job.tables)):
        numbers = numbers_of(job, table)
        found.append((table, numbers[0], numbers[-1]))
    return found


def write_contents(job):
    """Return the text of the contents, a line for each table."""
    lines = []
    for table, first, last in contents(job):
        lines.append(f"{table} {first}-{last}" if first < last else f"{table} {first}")
    return "\n".join(lines)


def table_on(job, page):
    """Return the table and its page for the number of a page, or None if there is no such page."""
    pages = job.pages()
    if not 1 <= page <= len(pages):
        return None
    table, page_of_table, _ = pages[page - 1]
    return (table, page_of_table)


def signatures_of(job, table):
    """Return the ascending list of the signatures that have a page of a table."""
    wanted = numbers_of(job, table)
    found = []
    for signature in range(job.signature_count()):
        if any([number in wanted for number in job.numbers(signature)]):
            found.append(signature)
    return found
