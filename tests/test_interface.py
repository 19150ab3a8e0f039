"""The interface: how calls and answers are laid out, and that nothing is changed or kept."""

import unittest

from cellmoments.desk import answers
from talk import (FAR, TalkCase, back, bisect, blame, differ, drop, edits, flips, guilty, lose, moment, moments, now,
                  put, result, results, runs, seed, shrink, talk, touching, workings)

# Each of the twenty calls, with its answer.
SESSION = [
    (now(), [0]),
    (put(1, 0, 0, 5), [1]),
    (put(2, 1, 1, 3, [0]), [1]),
    (moment(7), [2]),
    (put(1, 0, 3, 5), [0]),
    (results(3), [2, 1, 2, 0, 2, 3, 0]),
    (moment(8), [3]),
    (seed(9), [0]),
    (result(2, 2), [1, 15]),
    (differ(2, 4), [2, 1, 1, 5, 2, 0, 2, 1, 15, 3, 0]),
    (edits(1, 4), [3, 0, 2, 1, 1, 3, 1, 0, 0, 1, 0, 3, 5, 0, 2, 9]),
    (blame(2, 4), [3]),
    (flips(2, 0, 4), [2, 2, 3]),
    (bisect(2, 2, 4), [3, 1]),
    (touching(2, 0, 4), [2, 2, 3]),
    (guilty(2, 0, 4), [1, 3]),
    (shrink(2, 2, 4), [1, 3]),
    (workings(0, 4), [3]),
    (runs(0, 4), [3]),
    (drop(1), [0]),
    (back(2), [3]),
    (moments(), [1, 7, 2]),
    (results(2), [2, 1, 1, 5, 2, 1, 15]),
    (put(1, 0, 1, 0), [0]),
    (guilty(2, 0, 3), [1, 3]),
    (workings(0, 3), [4]),
    (runs(2, 3), [4]),
    (lose(7), [0]),
    (moments(), [0]),
    (now(), [3]),
    (put(FAR, -FAR, FAR, -FAR, [FAR, -FAR]), [-1]),
]
MANY = sum([call for call, answer in SESSION], [])
QUESTIONS = [lambda number, p, q: result(number, q), lambda number, p, q: results(q),
             lambda number, p, q: differ(q, p), lambda number, p, q: edits(p, q), lambda number, p, q: blame(number, q),
             flips, bisect, touching, guilty, shrink, lambda number, p, q: workings(p, q),
             lambda number, p, q: runs(p, q)]


class Layout(unittest.TestCase):
    def test_numbers_of_the_calls(self):
        pairs = [([0, 1, 2, 0, 5, 0], [1, 1]), ([0, 2, 3, 0, 6, 1, 2], [1, 1]), ([2, 44], [1, 0]), ([3, 6], [1, 3]),
                 ([5], [3, 1, 6, 3]), ([7], [1, 3]), ([8, 1, 2], [2, 1, 5]), ([9, 2], [7, 2, 1, 1, 5, 2, 1, 11]),
                 ([4, 6], [1, 0]), ([5], [1, 0]), ([1, 2], [1, 0]), ([10, 3, 4], [6, 1, 2, 1, 11, 0, 0]),
                 ([11, 1, 4], [12, 3, 0, 2, 3, 0, 6, 1, 2, 2, 44, 1, 2]), ([12, 2, 3], [1, 2]),
                 ([13, 2, 0, 4], [3, 2, 2, 4]), ([14, 2, 2, 4], [2, 4, 1]), ([15, 2, 1, 4], [3, 2, 2, 4]),
                 ([16, 2, 1, 4], [2, 1, 4]), ([17, 2, 3, 4], [2, 1, 4]), ([18, 1, 3], [1, 2]), ([19, 2, 4], [1, 2]),
                 ([6, 0], [1, 4]), ([7], [1, 0])]
        told = answers(sum([call for call, answer in pairs], []))
        self.assertEqual(told, sum([answer for call, answer in pairs], []))

    def test_one_call(self):
        self.assertEqual(answers([7]), [1, 0])
        self.assertEqual(answers([5]), [1, 0])
        self.assertEqual(answers([9, 0]), [1, 0])
        self.assertEqual(answers([8, 1, 0]), [2, 0, 0])
        self.assertEqual(answers([0, 0, 0, 0, 0, 0]), [1, -1])
        for call in (10, 11, 18, 19):
            self.assertEqual(answers([call, 0, 0]), [1, 0])
            self.assertEqual(answers([call, 0, 1]), [1, -10])
        self.assertEqual(answers([12, 1, 0]), [1, 0])
        for call in (13, 15, 16, 17):
            self.assertEqual(answers([call, 1, 0, 0]), [1, 0])
            self.assertEqual(answers([call, FAR, -FAR, FAR]), [1, -10])
        self.assertEqual(answers([14, 1, 0, 0]), [1, -16])

    def test_a_refused_call_is_taken_whole(self):
        for refused in (put(0, 0, 0, 0, [5] * 40), put(1, 0, 0, 0, range(7)), put(1, 0, 9, 0, [1, 2]), differ(0, 9),
                        edits(9, 0), blame(1, 9), flips(1, 9, 9), bisect(1, 0, 0), bisect(1, 9, 9), touching(1, 9, 9),
                        guilty(1, 9, 9), shrink(1, 9, 9), workings(9, 9), runs(9, 9)):
            self.assertEqual(len(talk([refused, now(), seed(1), now()])), 4)
            self.assertEqual(talk([refused, now(), seed(1), now()])[1:], [[0], [0], [1]])

    def test_kinds_of_what_is_given_back(self):
        told = answers(MANY)
        self.assertIs(type(told), list)
        self.assertEqual({type(number) for number in told}, {int})

    def test_the_longest_list(self):
        widest = put(FAR, FAR, FAR, FAR, [FAR] * 36)
        calls = widest * 400
        self.assertLessEqual(len(calls), 17000)
        self.assertEqual(answers(calls), [1, -1] * 400)


class NothingKept(unittest.TestCase):
    def test_the_list_stands_unchanged(self):
        handed = list(MANY)
        answers(handed)
        self.assertEqual(handed, MANY)

    def test_the_list_is_only_read(self):
        class OnlyRead(list):
            def refuse(self, *given):
                raise AssertionError("what is handed in is changed")
            append = extend = insert = pop = remove = clear = sort = reverse = refuse
            __setitem__ = __delitem__ = __iadd__ = __imul__ = refuse
        self.assertEqual(answers(OnlyRead(MANY)), answers(MANY))

    def test_a_second_time(self):
        first = answers(MANY)
        self.assertEqual(answers(MANY), first)
        self.assertEqual(answers([7, 5, 9, 0]), [1, 0, 1, 0, 1, 0])

    def test_what_is_given_back_is_not_kept(self):
        first = answers(MANY)
        expected = list(first)
        first.clear()
        self.assertEqual(answers(MANY), expected)


class WholeLine(TalkCase):
    def test_a_session_with_all_calls(self):
        self.assertEqual({call[0] for call, answer in SESSION}, set(range(20)))
        self.assertEqual(talk([call for call, answer in SESSION]), [answer for call, answer in SESSION])

    def test_questions_change_nothing(self):
        """What a question is answered does not hang on what was asked ahead of it."""
        changing = [call for call, answer in SESSION if call[0] <= 2]
        questions = [ask(number, p, q) for ask in QUESTIONS for number in (1, 2) for p in range(4) for q in range(4)]
        alone = [talk(changing + [question])[-1] for question in questions]
        self.assertEqual(talk(changing + questions)[len(changing):], alone)
        self.assertEqual(talk(changing + questions[::-1])[len(changing):], alone[::-1])


if __name__ == "__main__":
    unittest.main()
