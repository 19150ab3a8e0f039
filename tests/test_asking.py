"""Promises 4, 6 and 7: differ and edits."""

import unittest

from talk import FAR, TalkCase, back, differ, drop, edits, put, seed, talk

CALLS = [put(9, 0, 0, 4), put(3, 1, 0, 5, [0]), put(9, 0, 3, 4), seed(8), put(3, 1, 0, 5, [7]), drop(9)]
TWELVE = [put(number, number, 0, number) for number in range(1, 13)]
FORTY = [seed(number) for number in range(1, 41)]


class Differ(TalkCase):
    def test_between_two_positions(self):
        self.says(CALLS + [differ(1, 2)], [1, 3, 0, 0, 1, 9])
        self.says(CALLS + [differ(2, 3)], [2, 3, 1, 9, 3, 0, 9, 1, 4, 2, 0])
        self.says(CALLS + [differ(3, 4)], [0])
        self.says(CALLS + [differ(4, 5)], [1, 3, 3, 0, 4, 4])
        self.says(CALLS + [differ(5, 6)], [1, 9, 2, 0, 0, 0])
        self.says(CALLS + [differ(2, 6)], [2, 3, 1, 9, 4, 4, 9, 1, 4, 0, 0])

    def test_p_above_q(self):
        self.says(CALLS + [differ(3, 2)], [2, 3, 3, 0, 1, 9, 9, 2, 0, 1, 4])
        self.says(CALLS + [differ(6, 5)], [1, 9, 0, 0, 2, 0])
        self.says(CALLS + [differ(6, 0)], [1, 3, 4, 4, 0, 0])
        self.says(CALLS + [differ(4, 3)], [0])

    def test_the_same_position(self):
        self.says([differ(0, 0)], [0])
        for p in range(7):
            self.says(CALLS + [differ(p, p)], [0])

    def test_from_position_0(self):
        self.says(CALLS + [differ(0, 2)], [2, 3, 0, 0, 1, 9, 9, 0, 0, 1, 4])
        self.says(CALLS + [differ(0, 6)], [1, 3, 0, 0, 4, 4])

    def test_another_cell_with_the_same_result(self):
        calls = [put(1, 0, 0, 4), put(1, 1, 2, 4), seed(3), drop(1), put(1, 2, 4, 4)]
        self.says(calls + [differ(1, 5)], [0])
        self.says(calls + [differ(1, 4)], [1, 1, 1, 4, 0, 0])

    def test_only_those_that_differ(self):
        calls = TWELVE + [put(5, 5, 0, 50), put(2, 2, 3, 1)]
        self.says(calls + [differ(12, 14)], [2, 2, 1, 2, 2, 0, 5, 1, 5, 1, 50])

    def test_one_trouble_and_another(self):
        calls = [put(1, 0, 0, 4, [9]), put(1, 0, 0, 4, [0]), put(2, 0)]
        self.says(calls + [differ(1, 2)], [1, 1, 4, 4, 4, 3])
        self.says(calls + [differ(2, 3)], [2, 1, 4, 3, 4, 2, 2, 0, 0, 4, 2])

    def test_the_value_0_is_a_result(self):
        self.says([put(1, 0), drop(1), differ(1, 2)], [1, 1, 1, 0, 0, 0])

    def test_far_below_what_was_edited(self):
        calls = [put(7, 1, 0, 1), put(5, 2, 0, 1, [1]), put(3, 3, 0, 1, [2]), put(7, 1, 0, 2)]
        self.says(calls + [differ(3, 4)], [3, 3, 1, 3, 1, 4, 5, 1, 2, 1, 3, 7, 1, 1, 1, 2])

    def test_24_cells(self):
        calls = TWELVE + [drop(number) for number in range(1, 13)]
        calls = calls + [put(number, number % 32, 0, number) for number in range(36, 24, -1)]
        gone = [part for number in range(1, 13) for part in (number, 1, number, 0, 0)]
        come = [part for number in range(25, 37) for part in (number, 0, 0, 1, number)]
        self.says(calls + [differ(12, 36)], [24] + gone + come)

    def test_the_last_of_forty(self):
        calls = [put(1, 0, 5)] + FORTY[:39]
        self.says(calls + [differ(1, 40)], [1, 1, 1, 41, 1, 41 * 3901 % 97])
        self.says(calls + [differ(40, 0)], [1, 1, 1, 41 * 3901 % 97, 0, 0])
        self.says(FORTY + [differ(0, 40)], [0])

    def test_no_position(self):
        for wrong in (-1, 7, 40, 41, FAR, -FAR):
            for other in (0, 3, 6, wrong):
                self.refuses(CALLS, differ(wrong, other), -10)
                self.refuses(CALLS, differ(other, wrong), -10)
        self.refuses([], differ(0, 1), -10)
        self.refuses([], differ(1, 0), -10)
        self.refuses(CALLS + [back(2)], differ(0, 3), -10)


class Edits(TalkCase):
    def test_each_as_told(self):
        calls = [put(99, 31, 5, 96, [5, 0, 31, 4, 3, 1]), put(1, 0, 0, 0), seed(1000), drop(99), seed(0),
                 put(1, 2, 3, 4, [6])]
        told = [[0, 99, 31, 5, 96, 6, 5, 0, 31, 4, 3, 1], [0, 1, 0, 0, 0, 0], [2, 1000], [1, 99], [2, 0],
                [0, 1, 2, 3, 4, 1, 6]]
        for p in range(7):
            for q in range(p, 7):
                self.says(calls + [edits(p, q)], [q - p] + sum(told[p:q], []))

    def test_none(self):
        self.says([edits(0, 0)], [0])
        self.says(CALLS + [edits(6, 6)], [0])

    def test_refused_edits_are_none(self):
        self.says([put(1, 0), put(1, 0), put(0, 0), drop(2), seed(0), seed(1001), edits(0, 1)], [1, 0, 1, 0, 0, 0, 0])

    def test_behind_a_going_back(self):
        self.says(CALLS + [back(1), drop(9), seed(4), edits(0, 3)], [3, 0, 9, 0, 0, 4, 0, 1, 9, 2, 4])

    def test_the_longest_answer(self):
        calls = [put(1, 31, 5, 96 - step % 2, [5, 4, 3, 2, 1, 0]) for step in range(40)]
        told = talk(calls + [edits(0, 40)])[-1]
        self.assertEqual(len(told), 481)
        self.assertEqual(told, [40] + sum(calls, []))

    def test_forty(self):
        self.says(FORTY + [edits(0, 40)], [40] + [part for number in range(1, 41) for part in (2, number)])
        self.says(FORTY + [edits(39, 40)], [1, 2, 40])

    def test_positions(self):
        self.wants_positions(CALLS, edits)
        self.refuses([], edits(0, 1), -10)
        self.refuses(CALLS, edits(3, 2), -10)
        self.refuses(FORTY, edits(40, 41), -10)


if __name__ == "__main__":
    unittest.main()
