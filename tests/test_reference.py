"""Lines of many calls, answered as a second way of working, written straight from the words, answers them."""

import random
import unittest

from talk import back, drop, lose, moment, moments, now, put, result, results, seed, talk


def closure(cells):
    """Pairs (A, B) of numbers such that B is above A."""
    makers = {name: [c[0] for c in cells if c[1] == name] for name in range(32)}
    pairs = {(c[0], makers[name][0]) for c in cells for name in c[4] if len(makers[name]) == 1}
    while True:
        more = {(a, d) for a, b in pairs for c, d in pairs if b == c} - pairs
        if not more:
            return makers, pairs
        pairs |= more


def plain_results(cells, seed_now):
    cells = sorted(cells)
    makers, above = closure(cells)

    def first_trouble(cell):
        counts = [len(makers[name]) for name in cell[4]]
        checks = [(2, len(makers[cell[1]]) >= 2), (3, (cell[0], cell[0]) in above),
                  (4, any(count == 0 for count in counts)), (5, any(count >= 2 for count in counts))]
        return next((trouble for trouble, fits in checks if fits), 0)

    own = {cell[0]: first_trouble(cell) for cell in cells}
    by_number = {cell[0]: cell for cell in cells}

    def shown(number):
        _, _, kind, k, reads = by_number[number]
        if own[number]:
            return 4, own[number]
        if any(own[b] for a, b in above if a == number):
            return 4, 6
        read = [shown(makers[name][0]) for name in reads]
        if any(state in (2, 3) for state, _ in read):
            return 3, 0
        values = [value for _, value in read]
        total = sum(values)
        product = 1
        for value in values:
            product *= value
        if kind == 3 and total % 97 == 0:
            return 2, 0
        return 1, [lambda: (k + total) % 97, lambda: k * product % 97, lambda: max([k] + values),
                   lambda: 1000 * k // (total % 97) % 97, lambda: (k + total // 16) % 97,
                   lambda: (41 * (100 * seed_now + number) + 13 * k + total) % 97][kind]()

    return {number: shown(number) for number in by_number}


def plain_state(edits):
    cells = {}
    seed_now = 0
    for edit in edits:
        if edit[0] == 0:
            cells[edit[1]] = (edit[1], edit[2], edit[3], edit[4], tuple(edit[6:]))
        elif edit[0] == 1:
            del cells[edit[1]]
        else:
            seed_now = edit[1]
    return cells, seed_now


def plain_put(call, cells, edits):
    number, name, kind, constant, _, *reads = call[1:]
    names = [name] + reads
    wrong = [(-1, not 1 <= number <= 99), (-5, min(names) < 0 or max(names) > 31),
             (-6, any(reads.count(read) > 1 for read in reads)), (-4, len(reads) > 6), (-2, kind not in range(6)),
             (-3, constant not in range(97)), (-7, number not in cells and len(cells) == 12),
             (-12, cells.get(number) == (number, name, kind, constant, tuple(reads))), (-13, len(edits) == 40)]
    return next((refusal for refusal, fits in wrong if fits), int(number not in cells))


def plain_edit(call, cells, seed_now, edits):
    if call[0] == 0:
        return plain_put(call, cells, edits)
    if call[0] == 1:
        wrong = [(-8, call[1] not in cells), (-13, len(edits) == 40)]
    else:
        wrong = [(-9, call[1] not in range(1001)), (-12, call[1] == seed_now), (-13, len(edits) == 40)]
    return next((refusal for refusal, fits in wrong if fits), 0)


def plain_talk(calls):
    edits = []
    kept = {}
    told = []
    for call in calls:
        cells, seed_now = plain_state(edits)
        code = call[0]
        p = call[-1]
        if code <= 2:
            answer = [plain_edit(call, cells, seed_now, edits)]
            if answer[0] >= 0:
                edits = edits + [call]
        elif code == 3:
            answer = [len(edits) if p in range(32) else -5]
            kept = {**kept, p: len(edits)} if p in range(32) else kept
        elif code == 4:
            answer = [0 if p in kept else -11]
            kept = {name: kept[name] for name in kept if name != p}
        elif code == 5:
            answer = [len(kept)] + [number for name in sorted(kept) for number in (name, kept[name])]
        elif code == 7:
            answer = [len(edits)]
        elif p not in range(len(edits) + 1):
            answer = [-10]
        elif code == 6:
            answer = [len(edits) - p]
            edits = edits[:p]
            kept = {name: kept[name] for name in kept if kept[name] <= p}
        else:
            cells, seed_now = plain_state(edits[:p])
            shown = plain_results(list(cells.values()), seed_now)
            if code == 8:
                answer = list(shown.get(call[1], (0, 0)))
            else:
                answer = [len(shown)] + [part for number in sorted(shown) for part in (number, *shown[number])]
        told.append(answer)
    return told


def some_put(rng, names, numbers):
    """A cell in a crowd of names, where troubles are many."""
    reads = rng.sample(range(names), rng.choice([0, 0, 1, 1, 2, 3, min(names, 6)]))
    if rng.random() < 0.03:
        reads = rng.choices(range(-1, 33), k=rng.randrange(41))
    constant = rng.choice([0, 1, 96, rng.randrange(97)])
    return put(rng.randint(1, numbers), rng.randrange(names), rng.randrange(6), constant, reads)


def tidy_put(rng, names, numbers):
    """A cell with a name of its own that mostly reads names of higher cells, so that many cells are clear."""
    number = rng.randint(1, 12)
    higher = list(range(number + 1, 13))
    reads = rng.sample(higher, min(len(higher), rng.choice([0, 1, 1, 2, 3, 6])))
    if rng.random() < 0.05:
        reads = reads[:5] + [number - 1]
    return put(number, number, rng.randrange(6), rng.choice([0, 1, 96, rng.randrange(97)]), reads)


def wild_put(rng):
    wild = [-10 ** 18, -1, 0, 1, 2, 5, 6, 31, 32, 96, 97, 99, 100, 10 ** 18]
    few = [0, 1, 1, 5, 6, 97]
    return put(rng.choice(few), rng.choice(few), rng.choice(few), rng.choice(wild), rng.choices(wild, k=rng.choice([0, 3])))


def some_call(rng, putting, names, numbers):
    pick = rng.random()
    if pick < 0.45:
        return putting(rng, names, numbers)
    if pick < 0.48:
        return wild_put(rng)
    if pick < 0.50:
        return back(rng.choice([rng.randint(-1, 5), rng.randint(15, 41)]))
    return rng.choice([drop(rng.randint(1, numbers)), seed(rng.choice([0, 1, 1000, 1001, rng.randint(0, 1000)])),
                       moment(rng.randint(-1, 32)), lose(rng.randint(0, 31)), moments(), now(),
                       result(rng.randint(0, numbers + 1), rng.randint(-1, 41)),
                       results(rng.randint(-1, 20)), results(rng.randint(0, 10)), results(rng.randint(0, 40))])


def some_line(number):
    rng = random.Random(number)
    putting = rng.choice([some_put, tidy_put])
    names = rng.choice([4, 8, 16, 32])
    numbers = rng.choice([6, 14, 99])
    return [some_call(rng, putting, names, numbers) for step in range(rng.choice([20, 100, 400]))]


class Reference(unittest.TestCase):
    def test_lines(self):
        for number in range(150):
            calls = some_line(number)
            self.assertEqual(talk(calls), plain_talk(calls), number)


if __name__ == "__main__":
    unittest.main()
