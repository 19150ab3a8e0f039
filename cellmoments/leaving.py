"""The calls that leave edits out to see whether a cell passes without them: guilty, shrink."""

from cellmoments.page import Page
from cellmoments.refusals import ALLOWED, BAD_POSITION, PASSES_AT_Q, TOO_MANY_BETWEEN

MOST_TO_SHRINK = 12


def passes_behind(history, number, p, edit_numbers):
    """Whether the cell passes at the end of the edits up to p and those of these numbers behind them."""
    edits = [history.edit_of_number(k) for k in edit_numbers]
    return Page(history.pages[p].notebook.with_edits(edits)).passes(number)


def failing_refusal(history, number, p, q):
    if not history.has_span(p, q):
        return BAD_POSITION
    if history.pages[q].passes(number):
        return PASSES_AT_Q
    return ALLOWED


def tell_guilty(history, number, p, q):
    refusal = failing_refusal(history, number, p, q)
    if refusal != ALLOWED:
        return [refusal]
    guilty = []
    for k in range(p + 1, q + 1):
        if passes_behind(history, number, k - 1, list(range(k + 1, q + 1))):
            guilty.append(k)
    return [len(guilty)] + guilty


def tell_shrunk(history, number, p, q):
    refusal = failing_refusal(history, number, p, q)
    if refusal != ALLOWED:
        return [refusal]
    if q - p > MOST_TO_SHRINK:
        return [TOO_MANY_BETWEEN]
    left = list(range(p + 1, q + 1))
    shorter = without_needless(history, number, p, left)
    while shorter != left:
        left = shorter
        shorter = without_needless(history, number, p, left)
    return [len(left)] + left


def without_needless(history, number, p, edit_numbers):
    """One going through: each edit is left out if the cell still fails without it and those left out before it."""
    left = list(edit_numbers)
    for k in edit_numbers:
        others = [other for other in left if other != k]
        if not passes_behind(history, number, p, others):
            left = others
    return left
