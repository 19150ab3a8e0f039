"""Lays calls out as the interface tells, and splits the answers again: for the tests alone."""

import unittest

from cellmoments.desk import answers

FAR = 10 ** 18


def put(number, name, kind=0, constant=0, reads=()):
    return [0, number, name, kind, constant, len(reads)] + list(reads)


def drop(number):
    return [1, number]


def seed(new_seed):
    return [2, new_seed]


def moment(name):
    return [3, name]


def lose(name):
    return [4, name]


def moments():
    return [5]


def back(p):
    return [6, p]


def now():
    return [7]


def result(number, p):
    return [8, number, p]


def results(p):
    return [9, p]


def differ(p, q):
    return [10, p, q]


def edits(p, q):
    return [11, p, q]


def blame(number, p):
    return [12, number, p]


def flips(number, p, q):
    return [13, number, p, q]


def bisect(number, p, q):
    return [14, number, p, q]


def touching(number, p, q):
    return [15, number, p, q]


def guilty(number, p, q):
    return [16, number, p, q]


def shrink(number, p, q):
    return [17, number, p, q]


def workings(p, q):
    return [18, p, q]


def runs(p, q):
    return [19, p, q]


def split(told):
    """The answers of a list of calls, each as a list of its numbers."""
    parts = []
    place = 0
    while place < len(told):
        end = place + 1 + told[place]
        parts.append(told[place + 1:end])
        if len(parts[-1]) != told[place]:
            raise AssertionError("the last answer is cut off")
        place = end
    return parts


def talk(calls):
    return split(answers(sum(calls, [])))


class TalkCase(unittest.TestCase):
    def says(self, calls, answer):
        """The last of these calls is answered so."""
        told = talk(calls)
        self.assertEqual(len(told), len(calls))
        self.assertEqual(told[-1], answer)

    def refuses(self, before, call, refusal):
        """The call is answered by that refusal alone, and leaves all that can be asked as it was."""
        self.says(before + [call], [refusal])
        self.assertEqual(everything(before + [call]), everything(before))

    def shows(self, cells, expected, behind=()):
        """With these cells, and these edits behind them, results tells just that: (number, state, detail)."""
        calls = list(cells) + list(behind)
        told = talk(calls + [results(len(calls))])
        self.assertTrue(all(answer[0] >= 0 for answer in told), told)
        numbers = [len(expected)]
        for row in expected:
            numbers.extend(row)
        self.assertEqual(told[-1], numbers)

    def wants_positions(self, before, ask):
        """ask(p, q) is refused by -10 wherever p or q is no position of the history, or p is above q."""
        last = talk(before + [now()])[-1][0]
        for wrong in (-1, last + 1, 41, FAR, -FAR):
            for other in (0, last, wrong):
                self.refuses(before, ask(wrong, other), -10)
                self.refuses(before, ask(other, wrong), -10)
        self.refuses(before, ask(last, last - 1), -10)
        self.refuses(before, ask(1, 0), -10)


def everything(calls):
    """What can be told of the history behind these calls: moments, positions, edits, and the results at each."""
    last = talk(calls + [now()])[-1][0]
    questions = [now(), moments(), edits(0, last)] + [results(p) for p in range(last + 1)]
    return talk(calls + questions)[len(calls):]
