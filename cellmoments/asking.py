"""The calls that ask what cells show: result, results."""

from cellmoments.refusals import BAD_POSITION
from cellmoments.running import NO_SUCH_CELL, results_in


def tell_result(history, number, p):
    if not history.has_position(p):
        return [BAD_POSITION]
    return list(results_in(history.notebook_at(p)).get(number, NO_SUCH_CELL))


def tell_results(history, p):
    if not history.has_position(p):
        return [BAD_POSITION]
    results = results_in(history.notebook_at(p))
    told = [len(results)]
    for number in sorted(results):
        told.append(number)
        told.extend(results[number])
    return told
