"""Lines of many calls, answered as a second way of working, written straight from the words, answers them.

Here a history is a tuple of edits, each as it is laid out in a call.
"""

import functools
import random
import unittest

from talk import (FAR, back, bisect, blame, differ, drop, edits, flips, guilty, lose, moment, moments, now, put, result,
                  results, runs, seed, shrink, talk, touching, workings)


def closure(cells):
    """Pairs (A, B) of numbers such that B is above A."""
    makers = {name: [c[0] for c in cells if c[1] == name] for name in range(32)}
    pairs = {(c[0], makers[name][0]) for c in cells for name in c[4] if len(makers[name]) == 1}
    while True:
        more = {(a, d) for a, b in pairs for c, d in pairs if b == c} - pairs
        if not more:
            return makers, pairs
        pairs |= more


@functools.lru_cache(maxsize=20000)
def plain_page(done):
    """What the cells come to behind these edits: their results by number, and the set of all workings."""
    by_number, seed_now = plain_state(done)
    cells = sorted(by_number.values())
    makers, above = closure(cells)
    at_work = set()

    def first_trouble(cell):
        counts = [len(makers[name]) for name in cell[4]]
        checks = [(2, len(makers[cell[1]]) >= 2), (3, (cell[0], cell[0]) in above),
                  (4, any(count == 0 for count in counts)), (5, any(count >= 2 for count in counts))]
        return next((trouble for trouble, fits in checks if fits), 0)

    own = {cell[0]: first_trouble(cell) for cell in cells}

    def shown(number):
        _, _, kind, k, reads = by_number[number]
        if own[number]:
            return 4, own[number]
        if any(own[b] for a, b in above if a == number):
            return 4, 6
        read = [shown(makers[name][0]) for name in reads]
        if any(state in (2, 3) for state, _ in read):
            return 3, 0
        values = [value for _, value in read]
        start = 100 * seed_now + number if kind == 5 else 0
        at_work.add((kind, k, start, *values))
        total = sum(values)
        product = 1
        for value in values:
            product *= value
        if kind == 3 and total % 97 == 0:
            return 2, 0
        return 1, [lambda: (k + total) % 97, lambda: k * product % 97, lambda: max([k] + values),
                   lambda: 1000 * k // (total % 97) % 97, lambda: (k + total // 16) % 97,
                   lambda: (41 * start + 13 * k + total) % 97][kind]()

    return {number: shown(number) for number in by_number}, at_work


def plain_state(done):
    """The notebook that these edits make of the one without cells: the cells by number, and the seed."""
    cells = {}
    seed_now = 0
    for edit in done:
        if edit[0] == 0:
            if edit[1] in cells or len(cells) < 12:
                cells[edit[1]] = (edit[1], edit[2], edit[3], edit[4], tuple(edit[6:]))
        elif edit[0] == 1:
            cells.pop(edit[1], None)
        else:
            seed_now = edit[1]
    return cells, seed_now


def plain_passes(done, number):
    state, value = plain_page(done)[0].get(number, (0, 0))
    return state == 1 and value != 0


def plain_related(made_of, number):
    """The names related to the cell, and whether it or a cell above it has the kind 5."""
    cells = made_of[0]
    if number not in cells:
        return set(), False
    above = closure(list(cells.values()))[1]
    near = [cells[other] for other in cells if other == number or (number, other) in above]
    return {name for cell in near for name in (cell[1], *cell[4])}, any(cell[2] == 5 for cell in near)


def plain_touches(edit, before, after, number):
    names_before, seeded_before = plain_related(before, number)
    names_after, seeded_after = plain_related(after, number)
    if edit[0] == 2:
        return seeded_before or seeded_after
    makes = {made_of[0][edit[1]][1] for made_of in (before, after) if edit[1] in made_of[0]}
    return edit[1] == number or bool(makes & (names_before | names_after))


def plain_bisect(done, number, p, q):
    if not plain_passes(done[:p], number) or plain_passes(done[:q], number):
        return [-16]
    looked = 0
    while q > p + 1:
        middle = (p + q) // 2
        looked += 1
        p, q = (middle, q) if plain_passes(done[:middle], number) else (p, middle)
    return [q, looked]


def plain_shrink(done, number, p, q):
    if plain_passes(done[:q], number):
        return [-15]
    if q - p > 12:
        return [-14]
    left = list(range(p, q))
    again = True
    while again:
        again = False
        for place in list(left):
            trial = [other for other in left if other != place]
            if not plain_passes(done[:p] + tuple(done[other] for other in trial), number):
                left = trial
                again = True
    return [len(left)] + [place + 1 for place in left]


def plain_guilty(done, number, p, q):
    if plain_passes(done[:q], number):
        return [-15]
    found = [k for k in range(p + 1, q + 1) if plain_passes(done[:k - 1] + done[k:q], number)]
    return [len(found)] + found


def plain_differ(done, p, q):
    at_p = plain_page(done[:p])[0]
    at_q = plain_page(done[:q])[0]
    rows = [(number, *at_p.get(number, (0, 0)), *at_q.get(number, (0, 0))) for number in range(1, 100)]
    rows = [row for row in rows if row[1:3] != row[3:]]
    return [len(rows)] + [part for row in rows for part in row]


def plain_span(code, number, p, q, done):
    """The answers to flips, touching, workings and runs, for which each position is looked at."""
    if code == 13:
        found = [k for k in range(p + 1, q + 1) if plain_passes(done[:k - 1], number) != plain_passes(done[:k], number)]
        return [len(found)] + found
    if code == 15:
        found = [k for k in range(p + 1, q + 1)
                 if plain_touches(done[k - 1], plain_state(done[:k - 1]), plain_state(done[:k]), number)]
        return [len(found)] + found
    at_work = [plain_page(done[:position])[1] for position in range(p, q + 1)]
    if code == 18:
        return [len(set().union(*at_work))]
    return [len(at_work[0]) + sum(len(now_run - before) for before, now_run in zip(at_work, at_work[1:]))]


def plain_question(call, done):
    """The answers to the calls from result on."""
    code, *given = call
    positions = given[-1:] if code in (8, 9, 12) else given[-2:]
    number = given[0]
    p = positions[0]
    q = positions[-1]
    if not all(position in range(len(done) + 1) for position in positions) or p > q and code != 10:
        return [-10]
    if code == 8:
        return list(plain_page(done[:p])[0].get(number, (0, 0)))
    if code == 9:
        shown = plain_page(done[:p])[0]
        return [len(shown)] + [part for number in sorted(shown) for part in (number, *shown[number])]
    if code == 11:
        return [q - p] + [part for edit in done[p:q] for part in edit]
    if code == 12:
        shown = [plain_page(done[:k])[0].get(number, (0, 0)) for k in range(p + 1)]
        return [max([0] + [k for k in range(1, p + 1) if shown[k] != shown[k - 1]])]
    if code == 10:
        return plain_differ(done, p, q)
    if code in (14, 16, 17):
        return {14: plain_bisect, 16: plain_guilty, 17: plain_shrink}[code](done, number, p, q)
    return plain_span(code, number, p, q, done)


def plain_put(call, cells, done):
    number, name, kind, constant, _, *reads = call[1:]
    names = [name] + reads
    wrong = [(-1, not 1 <= number <= 99), (-5, min(names) < 0 or max(names) > 31),
             (-6, any(reads.count(read) > 1 for read in reads)), (-4, len(reads) > 6), (-2, kind not in range(6)),
             (-3, constant not in range(97)), (-7, number not in cells and len(cells) == 12),
             (-12, cells.get(number) == (number, name, kind, constant, tuple(reads))), (-13, len(done) == 40)]
    return next((refusal for refusal, fits in wrong if fits), int(number not in cells))


def plain_edit(call, done):
    cells, seed_now = plain_state(done)
    if call[0] == 0:
        return plain_put(call, cells, done)
    if call[0] == 1:
        wrong = [(-8, call[1] not in cells), (-13, len(done) == 40)]
    else:
        wrong = [(-9, call[1] not in range(1001)), (-12, call[1] == seed_now), (-13, len(done) == 40)]
    return next((refusal for refusal, fits in wrong if fits), 0)


class PlainTalk:
    def __init__(self):
        self.done = ()
        self.kept = {}

    def answer(self, call):
        code = call[0]
        given = call[-1]
        if code <= 2:
            told = plain_edit(call, self.done)
            self.done = self.done + (tuple(call),) if told >= 0 else self.done
            return [told]
        if code == 3:
            self.kept = {**self.kept, given: len(self.done)} if given in range(32) else self.kept
            return [len(self.done) if given in range(32) else -5]
        if code == 4:
            told = [0 if given in self.kept else -11]
            self.kept = {name: self.kept[name] for name in self.kept if name != given}
            return told
        if code == 5:
            return [len(self.kept)] + [part for name in sorted(self.kept) for part in (name, self.kept[name])]
        if code == 6:
            return self.go_back(given)
        return [len(self.done)] if code == 7 else plain_question(call, self.done)

    def go_back(self, p):
        if p not in range(len(self.done) + 1):
            return [-10]
        gone = self.done[p:]
        self.done = self.done[:p]
        self.kept = {name: self.kept[name] for name in self.kept if self.kept[name] <= p}
        return [len(gone)]


class Crowd:
    """Cells of few names, where troubles are many."""

    def __init__(self, rng):
        self.names = rng.choice([4, 8, 16, 32])
        self.numbers = rng.choice([6, 14, 99])
        self.first = []

    def cell(self, rng):
        reads = rng.sample(range(self.names), rng.choice([0, 0, 1, 1, 2, 3, min(self.names, 6)]))
        if rng.random() < 0.03:
            reads = rng.choices(range(-1, 33), k=rng.randrange(41))
        constant = rng.choice([0, 1, 96, rng.randrange(97)])
        return put(rng.randint(1, self.numbers), rng.randrange(self.names), rng.randrange(6), constant, reads)


class Order:
    """Cells that mostly have a name of their own and read names of higher cells, so that many pass now and then."""

    def __init__(self, rng):
        self.numbers = 14
        self.first = [self.own(rng, number) for number in range(14, rng.randint(2, 12), -1)]

    def own(self, rng, number):
        higher = range(number + 1, 15)
        reads = rng.sample(higher, min(len(higher), rng.choice([0, 1, 1, 2, 2, 6])))
        constant = rng.choice([0, 1, 2, 96, rng.randrange(97)])
        return put(number, number, rng.choice([0, 0, 1, 2, 2, 3, 4, 5]), constant, reads)

    def cell(self, rng):
        call = self.own(rng, rng.randint(1, 14))
        if rng.random() < 0.2:
            call[2] = rng.randint(1, 14)
        if rng.random() < 0.05 and call[5]:
            call[6] = 0
        return call


def wild_put(rng):
    wild = [-FAR, -1, 0, 1, 2, 5, 6, 31, 32, 96, 97, 99, 100, FAR]
    few = [0, 1, 1, 5, 6, 97]
    number, name, kind = rng.choices(few, k=3)
    return put(number, name, kind, rng.choice(wild), rng.choices(wild, k=rng.choice([0, 3])))


def some_edit(rng, cells):
    pick = rng.random()
    if pick < 0.70:
        return cells.cell(rng)
    if pick < 0.74:
        return wild_put(rng)
    if pick < 0.90:
        return drop(rng.randint(1, min(cells.numbers, 14)))
    return seed(rng.choice([0, 1, 1000, 1001, rng.randint(0, 1000)]))


def some_note(rng, last):
    if rng.random() < 0.15:
        return back(rng.choice([rng.randint(-1, 5), rng.randint(last // 2, last + 1)]))
    return rng.choice([moment(rng.randint(-1, 32)), lose(rng.randint(0, 31)), moments(), now()])


def some_position(rng, last):
    if rng.random() < 0.02:
        return rng.choice([-FAR, -1, last + 1, 41, FAR])
    return rng.choice([rng.randint(0, last), rng.randint(0, last), last, 0])


def some_question(rng, last, numbers):
    pair = [some_position(rng, last), some_position(rng, last)]
    p, q = pair if rng.random() < 0.1 else sorted(pair)
    number = rng.choice([rng.randint(0, numbers + 1)] * 9 + [rng.choice([-FAR, -1, 0, 100, FAR])])
    return rng.choice([result(number, q), results(q), differ(*pair), edits(p, q), blame(number, q), flips(number, p, q),
                       bisect(number, p, q), touching(number, p, q), guilty(number, p, q), shrink(number, p, q),
                       workings(p, q), runs(p, q)])


def telling_question(rng, done):
    """A question about a cell that passes at an earlier position and fails at a later one, if there is such a cell."""
    for number in rng.sample(range(1, 15), 14):
        passing = [plain_passes(done[:p], number) for p in range(len(done) + 1)]
        falls = [(p, q) for q in range(len(done) + 1) for p in range(q) if passing[p] and not passing[q]]
        if falls:
            p, q = rng.choice(falls)
            near = rng.randint(max(0, q - 13), q)
            return rng.choice([flips(number, 0, q), bisect(number, p, q), bisect(number, p, q), touching(number, p, q),
                               guilty(number, p, q), guilty(number, 0, q), shrink(number, near, q),
                               shrink(number, near, q), shrink(number, p, q)])
    return now()


def some_line(number, length):
    """A line of calls, and how the second way of working answers each."""
    rng = random.Random(number)
    cells = rng.choice([Crowd, Order, Order])(rng)
    plain = PlainTalk()
    calls = []
    told = []
    for step in range(length):
        last = len(plain.done)
        pick = rng.random()
        if step < len(cells.first):
            call = cells.first[step]
        elif pick < (0.5 if length < 200 else 0.2):
            call = some_edit(rng, cells)
        elif pick < 0.56:
            call = some_note(rng, last)
        elif pick < 0.80:
            call = some_question(rng, last, cells.numbers)
        else:
            call = telling_question(rng, plain.done)
        calls.append(call)
        told.append(plain.answer(call))
    return calls, told


def fullest_line():
    """A line of 400 calls: 12 cells, 40 edits in all, and 360 questions about them."""
    rng = random.Random(1)
    calls = [put(number, number, number % 6, number, range(number + 1, min(number + 7, 13)))
             for number in range(12, 0, -1)]
    changing = [lambda step: put(12, 12, 0, step), lambda step: seed(step), lambda step: put(11, 11, 1, step % 3, [12]),
                lambda step: put(10, 10, 3, 60, [11, 12][step % 2:]), lambda step: put(1, 1, 5, step, [2, 3, 10])]
    calls = calls + [changing[step % 5](step) for step in range(1, 29)]
    plain = PlainTalk()
    told = [plain.answer(call) for call in calls]
    for step in range(360):
        calls.append(telling_question(rng, plain.done) if step % 2 else some_question(rng, 40, 12))
        told.append(plain.answer(calls[-1]))
    return calls, told


class Reference(unittest.TestCase):
    def test_the_fullest_line(self):
        calls, told = fullest_line()
        self.assertEqual(len(calls), 400)
        self.assertEqual(told[:40], [[1]] * 12 + [[0]] * 28)
        self.assertLessEqual(max(len(answer) for answer in told), 500)
        self.assertEqual(talk(calls), told)

    def test_all_calls_are_in_the_lines(self):
        asked = {call[0] for number in range(20) for call in some_line(number, 60)[0]}
        self.assertEqual(asked, set(range(20)))

    def test_lines(self):
        for number in range(240):
            calls, told = some_line(number, (20, 60, 60, 90)[number % 4])
            self.assertEqual(talk(calls), told, number)

    def test_longest_lines(self):
        for number in range(3):
            calls, told = some_line(number, 400)
            self.assertEqual(talk(calls), told, number)


if __name__ == "__main__":
    unittest.main()
