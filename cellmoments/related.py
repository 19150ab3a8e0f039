"""What a cell can hang on: the cells above it, and the names that it and they make or read."""

from cellmoments.working import SEEDED_KIND


def cell_and_above(number, page):
    """The cell of that number and the cells above it, or none where there is no such cell."""
    if not page.notebook.has_cell(number):
        return []
    # In a circle the cell is above itself: it then stands here twice, which does no harm.
    numbers = [number] + list(page.wiring.above[number])
    return [page.notebook.cells[upper] for upper in numbers]


def related_names(number, page):
    names = []
    for cell in cell_and_above(number, page):
        names.append(cell.name)
        names.extend(cell.reads)
    return names


def names_made(number, page):
    return [page.notebook.cells[number].name] if page.notebook.has_cell(number) else []


def makes_related(maker, number, before, after):
    """Whether the maker, on one of the two pages, makes a name that is related to the other cell on one of them."""
    related = related_names(number, before) + related_names(number, after)
    made = names_made(maker, before) + names_made(maker, after)
    return any([name in related for name in made])


def is_seeded(number, page):
    return any([cell.kind == SEEDED_KIND for cell in cell_and_above(number, page)])
