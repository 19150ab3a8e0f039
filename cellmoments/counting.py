"""The calls that count workings over the positions from p to q: workings, runs."""

from cellmoments.refusals import BAD_POSITION


def count_workings(history, p, q):
    if not history.has_span(p, q):
        return BAD_POSITION
    met = []
    for page in history.pages[p:q + 1]:
        met.extend(page.workings)
    return len(set(met))


def count_runs(history, p, q):
    if not history.has_span(p, q):
        return BAD_POSITION
    runs = 0
    before = []
    for page in history.pages[p:q + 1]:
        runs = runs + len(set(page.workings) - set(before))
        before = page.workings
    return runs
