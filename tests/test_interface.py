"""The interface: how calls and answers are laid out, and that nothing is changed or kept."""

import unittest

from cellmoments.desk import answers
from talk import FAR, TalkCase, back, drop, lose, moment, moments, now, put, result, results, seed, talk

MANY = sum([put(1, 0, 0, 5), put(2, 1, 5, 6, [0]), seed(3), moment(4), drop(1), moments(), result(2, 2), results(4),
            lose(9), back(1), now(), put(FAR, -FAR, FAR, -FAR, [FAR, -FAR])], [])


class Layout(unittest.TestCase):
    def test_numbers_of_the_calls(self):
        pairs = [([0, 1, 2, 0, 5, 0], [1, 1]), ([0, 2, 3, 0, 6, 1, 2], [1, 1]), ([2, 44], [1, 0]), ([3, 6], [1, 3]),
                 ([5], [3, 1, 6, 3]), ([7], [1, 3]), ([8, 1, 2], [2, 1, 5]), ([9, 2], [7, 2, 1, 1, 5, 2, 1, 11]),
                 ([4, 6], [1, 0]), ([5], [1, 0]), ([1, 2], [1, 0]), ([6, 0], [1, 4]), ([7], [1, 0])]
        told = answers(sum([call for call, answer in pairs], []))
        self.assertEqual(told, sum([answer for call, answer in pairs], []))

    def test_one_call(self):
        self.assertEqual(answers([7]), [1, 0])
        self.assertEqual(answers([5]), [1, 0])
        self.assertEqual(answers([9, 0]), [1, 0])
        self.assertEqual(answers([8, 1, 0]), [2, 0, 0])
        self.assertEqual(answers([0, 0, 0, 0, 0, 0]), [1, -1])

    def test_a_refused_call_is_taken_whole(self):
        for refused in (put(0, 0, 0, 0, [5] * 40), put(1, 0, 0, 0, range(7)), put(1, 0, 9, 0, [1, 2])):
            self.assertEqual(len(talk([refused, now(), seed(1), now()])), 4)
            self.assertEqual(talk([refused, now(), seed(1), now()])[1:], [[0], [0], [1]])

    def test_kinds_of_what_is_given_back(self):
        told = answers(MANY)
        self.assertIs(type(told), list)
        self.assertEqual({type(number) for number in told}, {int})

    def test_the_longest_list(self):
        widest = put(FAR, FAR, FAR, FAR, [FAR] * 36)
        calls = widest * 400
        self.assertLessEqual(len(calls), 17000)
        self.assertEqual(answers(calls), [1, -1] * 400)


class NothingKept(unittest.TestCase):
    def test_the_list_stands_unchanged(self):
        handed = list(MANY)
        answers(handed)
        self.assertEqual(handed, MANY)

    def test_the_list_is_only_read(self):
        class OnlyRead(list):
            def refuse(self, *given):
                raise AssertionError("what is handed in is changed")
            append = extend = insert = pop = remove = clear = sort = reverse = refuse
            __setitem__ = __delitem__ = __iadd__ = __imul__ = refuse
        self.assertEqual(answers(OnlyRead(MANY)), answers(MANY))

    def test_a_second_time(self):
        first = answers(MANY)
        self.assertEqual(answers(MANY), first)
        self.assertEqual(answers([7, 5, 9, 0]), [1, 0, 1, 0, 1, 0])

    def test_what_is_given_back_is_not_kept(self):
        first = answers(MANY)
        expected = list(first)
        first.clear()
        self.assertEqual(answers(MANY), expected)


class WholeLine(TalkCase):
    def test_a_session(self):
        calls = [now(), put(1, 0, 0, 5), put(2, 1, 1, 3, [0]), moment(7), put(1, 0, 3, 5), results(3), moment(8),
                 seed(9), result(2, 2), back(2), moments(), results(2), lose(7), moments(), now()]
        self.assertEqual(talk(calls), [[0], [1], [1], [2], [0], [2, 1, 2, 0, 2, 3, 0], [3], [0], [1, 15], [2],
                                       [1, 7, 2], [2, 1, 1, 5, 2, 1, 15], [0], [0], [2]])


if __name__ == "__main__":
    unittest.main()
