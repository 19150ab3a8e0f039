"""In which order the clear cells are gone through, and what each comes to. A result is a tuple of two numbers."""

from cellmoments.working import comes_to, start_of

NO_SUCH_CELL = (0, 0)
SHOWS = 1
REFUSED = (2, 0)
HELD = (3, 0)
TROUBLED = 4


def running_order(clear, above):
    """The clear numbers, each behind those above it, and the lowest first where there is a choice."""
    order = []
    waiting = sorted(clear)
    while waiting:
        ready = [number for number in waiting if not any([upper in waiting for upper in above[number]])]
        order.append(ready[0])
        waiting.remove(ready[0])
    return order


def working_of(cell, seed, sources, results):
    """The working of a clear cell whose sources have their results, or None where it is held."""
    if any([results[number][0] != SHOWS for number in sources]):
        return None
    values = tuple([results[number][1] for number in sources])
    return (cell.kind, cell.constant, start_of(cell, seed), values)


def result_from(working):
    if working is None:
        return HELD
    value = comes_to(working)
    if value is None:
        return REFUSED
    return (SHOWS, value)
