"""Promises 4 and 11: touching, and the word related."""

import unittest

from talk import FAR, TalkCase, back, drop, put, seed, touching

# Cell 1 reads from cell 2, which reads from cell 3; cell 4 reads from cell 1; cell 5 stands by itself.
CHAIN = [put(1, 1, 0, 1, [2]), put(2, 2, 0, 1, [3]), put(3, 3, 0, 1), put(4, 4, 0, 1, [1]), put(5, 5, 0, 1)]


class Touching(TalkCase):
    def touched(self, number, before, edit, expected):
        """Whether that edit, made behind those, touches the cell."""
        last = len(before) + 1
        self.says(before + [edit, touching(number, last - 1, last)], [1, last] if expected else [0])

    def test_the_cell_itself(self):
        self.touched(5, CHAIN, put(5, 5, 0, 2), True)
        self.touched(5, CHAIN, put(5, 6, 3, 2, [1]), True)
        self.touched(5, CHAIN, drop(5), True)
        self.touched(6, CHAIN, put(6, 6), True)
        self.touched(6, [], put(6, 6), True)

    def test_cells_above(self):
        for edit in (put(2, 2, 0, 2, [3]), put(3, 3, 0, 2), drop(2), drop(3), put(3, 9), put(2, 9)):
            self.touched(1, CHAIN, edit, True)
            self.touched(4, CHAIN, edit, True)
            self.touched(5, CHAIN, edit, False)

    def test_cells_below(self):
        for edit in (put(4, 4, 0, 2, [1]), put(4, 9, 0, 2, [1]), drop(4), put(6, 6, 0, 0, [1, 2, 3])):
            for number in (1, 2, 3, 5):
                self.touched(number, CHAIN, edit, False)

    def test_the_whole_chain(self):
        self.says(CHAIN + [touching(1, 0, 5)], [3, 1, 2, 3])
        self.says(CHAIN + [touching(2, 0, 5)], [2, 2, 3])
        self.says(CHAIN + [touching(3, 0, 5)], [1, 3])
        self.says(CHAIN + [touching(4, 0, 5)], [1, 4])
        self.says(CHAIN + [touching(5, 0, 5)], [1, 5])

    def test_a_name_that_no_cell_makes(self):
        calls = [put(1, 1, 0, 1, [7, 8])]
        self.touched(1, calls, put(2, 8), True)
        self.touched(1, calls, put(2, 7), True)
        self.touched(1, calls, put(2, 9, 0, 0, [7, 8]), False)
        far = [put(1, 1, 0, 1, [2]), put(2, 2, 0, 1, [7])]
        self.touched(1, far, put(3, 7), True)
        self.touched(2, far, put(3, 7), True)

    def test_another_cell_makes_its_name(self):
        self.touched(5, CHAIN, put(6, 5), True)
        self.touched(4, CHAIN, put(6, 1), True)
        self.touched(2, CHAIN, put(6, 1), False)
        self.touched(5, CHAIN + [put(6, 5)], drop(6), True)
        self.touched(5, CHAIN + [put(6, 5)], put(6, 6), True)
        self.touched(5, CHAIN + [put(6, 5)], put(6, 5, 0, 9), True)

    def test_the_name_made_before_and_after(self):
        calls = CHAIN + [put(6, 6)]
        self.touched(1, calls, put(6, 3), True)
        self.touched(1, calls, put(6, 7), False)
        self.touched(1, calls + [put(6, 3)], put(6, 7), True)
        self.touched(1, calls + [put(6, 3)], put(6, 2), True)
        self.touched(1, calls + [put(6, 3)], drop(6), True)

    def test_names_related_only_after(self):
        # Behind the edit cell 2 is above cell 1 and reads name 9; ahead of it no cell makes name 2.
        calls = [put(1, 1, 0, 0, [2]), put(3, 9)]
        self.touched(1, calls, put(3, 9, 0, 5), False)
        self.touched(1, calls + [put(2, 2, 0, 0, [9])], put(3, 9, 0, 5), True)
        self.touched(1, calls, put(2, 2, 0, 0, [9]), True)

    def test_names_related_no_more(self):
        calls = CHAIN + [put(1, 1, 0, 1)]
        self.touched(1, calls, put(2, 2, 0, 7, [3]), False)
        self.touched(1, calls, drop(3), False)
        self.touched(1, CHAIN + [drop(2)], put(3, 3, 0, 7), False)
        self.touched(1, CHAIN + [drop(2)], put(6, 2), True)

    def test_nothing_is_above_through_a_double_name(self):
        calls = CHAIN + [put(6, 2, 0, 1, [5])]
        self.touched(1, calls, put(3, 3, 0, 7), False)
        self.touched(1, calls, put(5, 5, 0, 7), False)
        self.touched(1, calls, put(6, 2, 0, 7, [5]), True)
        self.touched(1, calls, put(2, 2, 0, 7, [3]), True)
        self.touched(1, calls, drop(2), True)
        self.touched(1, calls + [drop(2)], put(5, 5, 0, 7), True)
        self.touched(1, calls + [drop(2)], put(3, 3, 0, 7), False)
        self.touched(2, calls, put(3, 3, 0, 7), True)
        self.touched(2, calls, put(6, 2, 0, 7, [5]), True)

    def test_circles(self):
        circle = [put(1, 1, 0, 1, [2]), put(2, 2, 0, 1, [3]), put(3, 3, 0, 1, [1]), put(4, 4, 0, 1, [3, 9]), put(5, 5)]
        for edit in (put(1, 1, 0, 2, [2]), put(2, 2, 0, 2), put(3, 3), drop(1), drop(2), drop(3)):
            for number in (1, 2, 3, 4):
                self.touched(number, circle, edit, True)
            self.touched(5, circle, edit, False)
        for edit in (put(4, 4), drop(4), put(6, 9)):
            for number in (1, 2, 3):
                self.touched(number, circle, edit, False)
            self.touched(4, circle, edit, True)
        self.says(circle + [touching(1, 0, 5)], [3, 1, 2, 3])
        self.touched(1, [put(1, 1, 0, 0, [1])], put(1, 1), True)
        self.touched(1, [put(1, 1, 0, 0, [1])], put(2, 2), False)

    def test_a_seed(self):
        cells = [put(1, 1, 0, 1, [2]), put(2, 2, 0, 1, [3]), put(3, 3, 5, 1), put(4, 4, 5, 1, [4]), put(5, 5, 4)]
        for number in (1, 2, 3, 4):
            self.touched(number, cells, seed(9), True)
        for number in (5, 6, 0, 100, FAR, -FAR):
            self.touched(number, cells, seed(9), False)
        for number in (1, 2, 3, 4, 5):
            self.touched(number, CHAIN, seed(9), False)

    def test_a_seed_and_cells_below_or_beside(self):
        cells = [put(1, 1, 0, 1), put(2, 2, 5, 1, [1]), put(3, 3, 5, 1)]
        self.touched(1, cells, seed(9), False)
        self.touched(2, cells, seed(9), True)

    def test_a_seed_and_a_double_name(self):
        cells = [put(1, 1, 0, 1, [2]), put(2, 2, 5, 1), put(3, 2, 5, 1)]
        self.touched(1, cells, seed(9), False)
        self.touched(2, cells, seed(9), True)
        self.touched(1, cells + [drop(2)], seed(9), True)

    def test_a_seed_and_a_refused_cell(self):
        self.touched(1, [put(1, 1, 3, 1, [2]), put(2, 2, 5, 1, [30])], seed(9), True)

    def test_a_cell_that_is_gone(self):
        calls = CHAIN + [drop(1)]
        for edit in (put(2, 2), drop(3), put(6, 1), seed(4), put(4, 1)):
            self.touched(1, calls, edit, False)
        self.touched(1, calls, put(1, 9), True)

    def test_only_between(self):
        calls = CHAIN + [put(3, 3, 0, 2), seed(4), drop(5), drop(2)]
        self.says(calls + [touching(1, 0, 9)], [5, 1, 2, 3, 6, 9])
        self.says(calls + [touching(1, 5, 9)], [2, 6, 9])
        self.says(calls + [touching(1, 6, 9)], [1, 9])
        self.says(calls + [touching(1, 6, 8)], [0])
        self.says(calls + [touching(1, 2, 3)], [1, 3])
        for p in range(10):
            self.says(calls + [touching(1, p, p)], [0])

    def test_behind_a_going_back(self):
        self.says(CHAIN + [back(2), seed(3), put(9, 3), touching(1, 0, 4)], [3, 1, 2, 4])

    def test_no_such_cell(self):
        for number in (0, 6, 99, 100, -1, FAR, -FAR):
            self.says(CHAIN + [seed(1), drop(1), touching(number, 0, 7)], [0])
        self.says([touching(1, 0, 0)], [0])

    def test_forty(self):
        calls = [put(1, 1, 5)] + [seed(number) for number in range(1, 40)]
        self.says(calls + [touching(1, 0, 40)], [40] + list(range(1, 41)))
        self.says(calls + [touching(1, 39, 40)], [1, 40])
        self.says(calls + [touching(2, 0, 40)], [0])

    def test_twelve_cells(self):
        calls = [put(number, number, 0, 1, [number + 1]) for number in range(1, 13)]
        self.says(calls + [drop(12), put(20, 13), touching(1, 0, 14)], [13] + list(range(1, 14)))
        self.says(calls + [drop(5), put(20, 13), touching(1, 0, 14)], [13] + list(range(1, 14)))
        self.says(calls + [drop(12), put(20, 12), touching(1, 0, 14)], [14] + list(range(1, 15)))

    def test_positions(self):
        self.wants_positions(CHAIN, lambda p, q: touching(1, p, q))
        self.wants_positions(CHAIN, lambda p, q: touching(-FAR, p, q))
        self.refuses([], touching(1, 0, 1), -10)


if __name__ == "__main__":
    unittest.main()
