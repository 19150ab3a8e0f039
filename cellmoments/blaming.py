"""The calls that ask which edit changed what a cell shows, or may have: blame, flips, bisect, touching."""

from cellmoments.refusals import BAD_POSITION, FAILS_AT_P_OR_PASSES_AT_Q


def tell_blamed(history, number, p):
    if not history.has_position(p):
        return [BAD_POSITION]
    k = p
    while k > 0 and history.pages[k].result_of(number) == history.pages[k - 1].result_of(number):
        k = k - 1
    return [k]


def tell_flips(history, number, p, q):
    if not history.has_span(p, q):
        return [BAD_POSITION]
    pages = history.pages
    flips = [k for k in range(p + 1, q + 1) if pages[k - 1].passes(number) != pages[k].passes(number)]
    return [len(flips)] + flips


def tell_bisected(history, number, p, q):
    if not history.has_span(p, q):
        return [BAD_POSITION]
    if not history.pages[p].passes(number) or history.pages[q].passes(number):
        return [FAILS_AT_P_OR_PASSES_AT_Q]
    a = p
    b = q
    looked_at = 0
    while b > a + 1:
        m = (a + b) // 2
        looked_at = looked_at + 1
        if history.pages[m].passes(number):
            a = m
        else:
            b = m
    return [b, looked_at]


def tell_touching(history, number, p, q):
    if not history.has_span(p, q):
        return [BAD_POSITION]
    pages = history.pages
    touching = []
    for k in range(p + 1, q + 1):
        if history.edit_of_number(k).touches(number, pages[k - 1], pages[k]):
            touching.append(k)
    return [len(touching)] + touching
