"""The calls that ask what stands at a position or between two: result, results, differ, edits."""

from cellmoments.refusals import BAD_POSITION


def tell_result(history, number, p):
    if not history.has_position(p):
        return [BAD_POSITION]
    return list(history.pages[p].result_of(number))


def tell_results(history, p):
    if not history.has_position(p):
        return [BAD_POSITION]
    results = history.pages[p].results
    told = [len(results)]
    for number in sorted(results):
        told.append(number)
        told.extend(results[number])
    return told


def tell_differing(history, p, q):
    if not history.has_position(p) or not history.has_position(q):
        return [BAD_POSITION]
    at_p = history.pages[p]
    at_q = history.pages[q]
    there = sorted(set(at_p.results) | set(at_q.results))
    differing = [number for number in there if at_p.result_of(number) != at_q.result_of(number)]
    told = [len(differing)]
    for number in differing:
        told.append(number)
        told.extend(at_p.result_of(number))
        told.extend(at_q.result_of(number))
    return told


def tell_edits(history, p, q):
    if not history.has_span(p, q):
        return [BAD_POSITION]
    told = [q - p]
    for edit in history.edits[p:q]:
        told.extend(edit.laid_out())
    return told
