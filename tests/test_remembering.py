"""Promises 2 and 3: moment, lose, moments, back, now."""

import unittest

from talk import FAR, TalkCase, back, drop, lose, moment, moments, now, put, result, results, seed, talk

FORTY = [seed(number) for number in range(1, 41)]


class Moment(TalkCase):
    def test_position(self):
        self.assertEqual(talk([moment(4), seed(1), moment(5), put(1, 0), moment(6)]), [[0], [0], [1], [1], [2]])

    def test_edges(self):
        self.says([moment(0)], [0])
        self.says([seed(1), moment(31)], [1])
        self.says(FORTY + [moment(31)], [40])

    def test_put_again(self):
        self.says([moment(4), seed(1), seed(2), moment(4)], [2])
        self.says([moment(4), seed(1), seed(2), moment(4), moments()], [1, 4, 2])
        self.says([seed(1), moment(4), moment(4), moments()], [1, 4, 1])

    def test_put_again_at_an_earlier_position(self):
        self.says([seed(1), moment(4), back(0), moment(4), moments()], [1, 4, 0])

    def test_no_name(self):
        for name in (-1, 32, FAR, -FAR):
            self.refuses([], moment(name), -5)
            self.refuses([seed(1), moment(3)], moment(name), -5)

    def test_no_edit_is_made(self):
        self.says([seed(1), moment(3), lose(3), now()], [1])


class Lose(TalkCase):
    def test_lose(self):
        self.says([moment(3), lose(3)], [0])
        self.says([moment(3), moment(4), lose(3), moments()], [1, 4, 0])
        self.says([moment(0), moment(31), lose(0), lose(31), moments()], [0])

    def test_no_such_moment(self):
        self.refuses([], lose(0), -11)
        self.refuses([seed(1), moment(3), moment(5), lose(5)], lose(5), -11)
        for name in (-1, 0, 2, 4, 31, 32, FAR, -FAR):
            self.refuses([seed(1), moment(3)], lose(name), -11)

    def test_again_after_loss(self):
        self.says([moment(3), lose(3), seed(1), moment(3), moments()], [1, 3, 1])


class Moments(TalkCase):
    def test_none(self):
        self.says([moments()], [0])

    def test_names_rise(self):
        self.says([moment(31), seed(1), moment(0), seed(2), moment(9), moments()], [3, 0, 1, 9, 2, 31, 0])

    def test_all_names(self):
        calls = [moment(name) for name in reversed(range(32))]
        told = [32]
        for name in range(32):
            told.extend([name, 0])
        self.says(calls + [moments()], told)


class Back(TalkCase):
    def test_how_many_are_gone(self):
        self.says([back(0)], [0])
        self.says([seed(1), seed(2), seed(3), back(1)], [2])
        self.says([seed(1), seed(2), seed(3), back(3)], [0])
        self.says(FORTY + [back(0)], [40])
        self.says(FORTY + [back(40)], [0])
        self.says(FORTY + [back(39)], [1])

    def test_the_edits_are_gone(self):
        calls = [put(1, 0, 0, 4), put(2, 1, 0, 5), drop(1), back(2)]
        self.says(calls + [results(2)], [2, 1, 1, 4, 2, 1, 5])
        self.says(calls + [result(1, 3)], [-10])
        self.says(calls + [put(3, 2, 0, 6), results(3)], [3, 1, 1, 4, 2, 1, 5, 3, 1, 6])

    def test_later_moments_go(self):
        calls = [moment(1), seed(1), moment(2), moment(8), seed(2), moment(3), seed(3), moment(4)]
        self.says(calls + [back(3), moments()], [5, 1, 0, 2, 1, 3, 2, 4, 3, 8, 1])
        self.says(calls + [back(1), moments()], [3, 1, 0, 2, 1, 8, 1])
        self.says(calls + [back(0), moments()], [1, 1, 0])
        self.refuses(calls + [back(1)], lose(3), -11)

    def test_gone_moments_stay_gone(self):
        self.says([seed(1), moment(2), back(0), seed(1), moments()], [0])

    def test_no_position(self):
        for p in (-1, 3, 40, 41, FAR, -FAR):
            self.refuses([seed(1), put(1, 0), moment(2)], back(p), -10)
        self.refuses([], back(1), -10)
        self.refuses(FORTY, back(41), -10)
        self.refuses(FORTY + [back(7)], back(8), -10)


class Now(TalkCase):
    def test_now(self):
        self.says([now()], [0])
        self.says([seed(1), put(1, 0), now()], [2])
        self.says(FORTY + [now()], [40])
        self.says(FORTY + [back(12), now()], [12])
        self.says([seed(1), seed(1), drop(3), now()], [1])


if __name__ == "__main__":
    unittest.main()
