"""Promises 4 and 14: workings and runs."""

import unittest

from talk import FAR, TalkCase, back, drop, put, runs, seed, talk, workings

FORTY = [seed(number) for number in range(1, 41)]


class Workings(TalkCase):
    def at_end(self, cells, expected):
        """So many different workings there are at the last position; each of them is run there."""
        last = len(cells)
        told = talk(cells + [workings(last, last), runs(last, last)])
        self.assertTrue(all(answer[0] >= 0 for answer in told), told)
        self.assertEqual(told[-2:], [[expected], [expected]])

    def test_none(self):
        self.at_end([], 0)
        self.at_end([seed(3)], 0)
        self.at_end([put(1, 1), drop(1)], 0)

    def test_one_for_each_cell(self):
        self.at_end([put(1, 1, 0, 5)], 1)
        self.at_end([put(1, 1, 0, 5), put(2, 2, 0, 6), put(3, 3, 0, 7, [1])], 3)

    def test_the_same_working(self):
        self.at_end([put(1, 1, 0, 5), put(2, 2, 0, 5)], 1)
        self.at_end([put(1, 1, 0, 5), put(2, 2, 0, 5), put(3, 3, 1, 4, [1]), put(4, 4, 1, 4, [2])], 2)
        self.at_end([put(number, number, 2, 9) for number in range(1, 13)], 1)

    def test_the_same_values_from_unlike_cells(self):
        # Cells 1 and 2 both show 5 by unlike workings; cells 3 and 4, which read them, have the same.
        self.at_end([put(1, 1, 0, 5), put(2, 2, 2, 5), put(3, 3, 0, 1, [1]), put(4, 4, 0, 1, [2])], 3)

    def test_each_part_makes_another_working(self):
        self.at_end([put(1, 1, 0, 5), put(2, 2, 2, 5)], 2)
        self.at_end([put(1, 1, 0, 5), put(2, 2, 0, 6)], 2)
        self.at_end([put(1, 1, 0, 5), put(2, 2, 0, 5, [3]), put(3, 3, 1, 0)], 3)
        self.at_end([put(1, 1, 0, 5), put(2, 2, 0, 6), put(3, 3, 0, 1, [1]), put(4, 4, 0, 1, [2])], 4)

    def test_the_order_of_the_values(self):
        cells = [put(1, 1, 0, 5), put(2, 2, 0, 6)]
        self.at_end(cells + [put(3, 3, 0, 1, [1, 2]), put(4, 4, 0, 1, [2, 1])], 4)
        self.at_end(cells + [put(3, 3, 0, 1, [1, 2]), put(4, 4, 0, 1, [1, 2])], 3)

    def test_how_often_a_value_stands_there(self):
        cells = [put(1, 1, 0, 5), put(2, 2, 0, 5)]
        self.at_end(cells + [put(3, 3, 2, 1, [1, 2]), put(4, 4, 2, 1, [1])], 3)

    def test_kind_5_has_its_number_in_it(self):
        self.at_end([put(1, 1, 5, 5), put(2, 2, 5, 5)], 2)
        self.at_end([put(number, number, 5, 9) for number in range(1, 13)], 12)

    def test_refused_cells_have_one(self):
        self.at_end([put(1, 1, 3, 5)], 1)
        self.at_end([put(1, 1, 3, 5), put(2, 2, 3, 6)], 2)
        self.at_end([put(1, 1, 3, 5), put(2, 2, 3, 5)], 1)

    def test_held_cells_have_none(self):
        self.at_end([put(1, 1, 3, 5), put(2, 2, 0, 1, [1])], 1)
        self.at_end([put(1, 1, 3, 5), put(2, 2, 0, 1, [1]), put(3, 3, 0, 1, [2, 4]), put(4, 4, 0, 7)], 2)

    def test_troubled_cells_have_none(self):
        self.at_end([put(1, 1), put(2, 1)], 0)
        self.at_end([put(1, 1, 0, 0, [1])], 0)
        self.at_end([put(1, 1, 0, 0, [9])], 0)
        self.at_end([put(1, 1), put(2, 1), put(3, 3, 0, 0, [1])], 0)
        self.at_end([put(1, 1, 0, 0, [9]), put(2, 2, 0, 0, [1]), put(3, 3)], 1)

    def test_all_together(self):
        calls = [put(1, 1, 0, 5), put(2, 2, 0, 6, [1]), put(1, 1, 0, 7), put(3, 3, 0, 5)]
        for p, q, expected in ((0, 0, 0), (0, 1, 1), (0, 2, 2), (1, 2, 2), (2, 2, 2), (2, 3, 4), (0, 3, 4), (3, 3, 2),
                               (3, 4, 3), (4, 4, 3), (0, 4, 4)):
            self.says(calls + [workings(p, q)], [expected])

    def test_a_working_that_goes_and_comes_back(self):
        calls = [put(1, 1, 0, 5), put(1, 1, 0, 6), put(1, 1, 0, 5), drop(1), put(2, 2, 0, 5)]
        self.says(calls + [workings(0, 5)], [2])
        self.says(calls + [workings(2, 5)], [2])
        self.says(calls + [workings(3, 5)], [1])

    def test_a_working_that_another_cell_takes_over(self):
        self.says([put(1, 1, 0, 5), drop(1), put(2, 9, 0, 5), workings(0, 3)], [1])

    def test_seeds(self):
        calls = [put(1, 1, 5, 5), put(2, 2, 0, 5), seed(1), seed(2), seed(1)]
        self.says(calls + [workings(0, 5)], [4])
        self.says([put(1, 1, 0, 5), put(2, 2, 4, 5, [1]), seed(1), seed(1000), workings(0, 4)], [2])

    def test_forty_edits_and_twelve_cells(self):
        calls = [put(number, number, 5, 9) for number in range(1, 13)] + FORTY[:28]
        self.says(calls + [workings(0, 40)], [12 + 28 * 12])
        self.says(calls + [workings(40, 40)], [12])
        self.says(calls + [workings(39, 40)], [24])
        self.says(FORTY + [workings(0, 40)], [0])

    def test_behind_a_going_back(self):
        self.says([put(1, 1, 0, 5), put(1, 1, 0, 6), back(1), put(1, 1, 0, 7), workings(0, 2)], [2])

    def test_positions(self):
        calls = [put(1, 1), put(2, 2), seed(4)]
        self.wants_positions(calls, workings)
        self.refuses([], workings(0, 1), -10)
        self.refuses([], workings(0, FAR), -10)


class Runs(TalkCase):
    def test_at_p_each_once(self):
        calls = [put(1, 1, 0, 5), put(2, 2, 0, 5), put(3, 3, 0, 6)]
        for p, expected in ((0, 0), (1, 1), (2, 1), (3, 2)):
            self.says(calls + [runs(p, p)], [expected])

    def test_at_later_positions_the_new_ones(self):
        calls = [put(1, 1, 0, 5), put(2, 2, 0, 6, [1]), put(1, 1, 0, 7), put(3, 3, 0, 5)]
        for p, q, expected in ((0, 1, 1), (0, 2, 2), (1, 2, 2), (2, 3, 4), (0, 3, 4), (3, 4, 3), (2, 4, 5), (0, 4, 5)):
            self.says(calls + [runs(p, q)], [expected])

    def test_a_new_one_that_two_cells_have_is_run_once(self):
        calls = [put(1, 1, 0, 1), put(2, 2, 0, 9, [1]), put(3, 3, 0, 9, [1]), put(1, 1, 0, 2)]
        self.says(calls + [runs(3, 4)], [4])
        self.says(calls + [runs(0, 4)], [4])

    def test_a_working_that_goes_and_comes_back(self):
        calls = [put(1, 1, 0, 5), put(1, 1, 0, 6), put(1, 1, 0, 5), drop(1), put(2, 2, 0, 5)]
        self.says(calls + [runs(0, 5)], [4])
        self.says(calls + [runs(1, 5)], [4])
        self.says(calls + [runs(2, 5)], [3])
        self.says(calls + [runs(3, 5)], [2])
        self.says(calls + [runs(4, 5)], [1])
        self.says(calls + [runs(4, 4)], [0])

    def test_a_working_that_another_cell_has_stays(self):
        calls = [put(1, 1, 0, 5), put(2, 2, 0, 5), drop(1), put(1, 1, 0, 5), put(2, 2, 0, 6), put(2, 2, 0, 5)]
        self.says(calls + [runs(0, 4)], [1])
        self.says(calls + [runs(0, 6)], [2])

    def test_held_refused_and_troubled(self):
        calls = [put(1, 1, 0, 0), put(2, 2, 3, 5, [1]), put(3, 3, 0, 1, [2]), put(1, 1, 0, 50), put(1, 1, 0, 0),
                 put(4, 1), drop(4)]
        # 1: 1 new. 2: 1 new. 3: none, held. 4: 3 new. 5: 2 new, held again. 6: none, all troubled. 7: 2 new.
        for q, expected in enumerate((0, 1, 2, 2, 5, 7, 7, 9)):
            self.says(calls + [runs(0, q)], [expected])
        for q, expected in enumerate((0, 1, 2, 2, 5, 5, 5, 5)):
            self.says(calls + [workings(0, q)], [expected])

    def test_seeds(self):
        calls = [put(1, 1, 5, 5), put(2, 2, 0, 5), seed(1), seed(2), seed(1)]
        self.says(calls + [runs(0, 5)], [5])
        self.says(calls + [runs(2, 5)], [5])
        self.says(calls + [runs(3, 5)], [4])

    def test_forty_edits_and_twelve_cells(self):
        calls = [put(number, number, 5, 9) for number in range(1, 13)] + [seed(step % 2) for step in range(1, 29)]
        self.says(calls + [runs(0, 40)], [12 + 28 * 12])
        self.says(calls + [runs(12, 40)], [12 + 28 * 12])
        self.says(calls + [workings(0, 40)], [24])
        self.says(calls + [runs(39, 40)], [24])
        self.says(FORTY + [runs(0, 40)], [0])

    def test_positions(self):
        calls = [put(1, 1), put(2, 2), seed(4)]
        self.wants_positions(calls, runs)
        self.refuses([], runs(0, 1), -10)
        self.refuses([], runs(-FAR, 0), -10)


if __name__ == "__main__":
    unittest.main()
