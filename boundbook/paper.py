"""Page sizes: what a manuscript costs on each, and which of them are fair (point 44)."""

from boundbook.fewest import fewest_of
from boundbook.makeup import cheapest_makeup
from boundbook.sizes import least_layouts
from boundbook.tables import check_table


def page_numbers(table, sizes):
    """Return for each page size the number of pages of a table, None if it has none."""
    layouts = least_layouts(table)
    numbers = []
    for width, height in sizes:
        fewest = fewest_of(table, layouts, width, height)
        numbers.append(None if fewest is None else len(fewest[1]))
    return numbers


def price(numbers, kinds):
    """Return the cost and the number of pages for those of each table, or None if one has none."""
    if None in numbers:
        return None
    pages = sum(numbers)
    return (cheapest_makeup(kinds, pages)[1], pages)


def prices(tables, sizes, kinds):
    """Return for each page size the cost and the number of pages, None if it does not count."""
    for table in tables:
        check_table(table)
    numbers = [page_numbers(table, sizes) for table in tables]
    return [price([of_table[place] for of_table in numbers], kinds) for place in range(len(sizes))]


def counting_sizes(tables, sizes, kinds):
    """Return for each page size that counts its number, its cost and its number of pages."""
    found = []
    for number, told in enumerate(prices(tables, sizes, kinds)):
        if told is not None:
            found.append((number,) + told)
    return found


def cheapest_page(tables, sizes, kinds):
    """Return the number of the cheapest page size, its cost and its number of pages, or None."""
    found = [(cost, pages, number) for number, cost, pages in counting_sizes(tables, sizes, kinds)]
    if not found:
        return None
    cost, pages, number = min(found)
    return (number, cost, pages)


def is_beaten(size, others):
    """Return whether one of these sizes, with their areas and costs, is better than this one."""
    _, area, cost = size
    for _, other_area, other_cost in others:
        if other_area <= area and other_cost <= cost and (other_area, other_cost) != (area, cost):
            return True
    return False


def fair_sizes(tables, sizes, kinds):
    """Return the list of the fair page sizes, each with its number, its area and its cost."""
    found = []
    for number, cost, _ in counting_sizes(tables, sizes, kinds):
        width, height = sizes[number]
        found.append((number, width * height, cost))
    return [size for size in found if not is_beaten(size, found)]
