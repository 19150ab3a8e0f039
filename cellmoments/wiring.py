"""Which cells of a notebook make a name, read from one another, and are above one another.

A wiring's makers lead from a name to the numbers of all cells that make it; its sources from a cell's number to
the numbers of the cells that it reads from, in the order of the names that it reads; its above from a cell's
number to a dict with the numbers of the cells above it.
"""


class Wiring:
    def __init__(self, cells):
        self.makers = makers_in(cells)
        self.sources = {}
        for cell in cells:
            self.sources[cell.number] = sources_of(cell, self.makers)
        self.above = {}
        for cell in cells:
            self.above[cell.number] = numbers_above(cell.number, self.sources)

    def how_many_make(self, name):
        return len(self.makers.get(name, ()))


def makers_in(cells):
    makers = {}
    for cell in cells:
        makers.setdefault(cell.name, []).append(cell.number)
    return makers


def sources_of(cell, makers):
    sources = []
    for name in cell.reads:
        making = makers.get(name, ())
        if len(making) == 1:
            sources.append(making[0])
    return sources


def numbers_above(number, sources):
    # The cell itself is found only where a circle leads back to it: the search begins with what it reads from.
    found = {}
    waiting = list(sources[number])
    while waiting:
        upper = waiting.pop()
        if upper not in found:
            found[upper] = True
            waiting.extend(sources[upper])
    return found
