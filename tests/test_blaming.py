"""Promises 4, 8, 9 and 10: blame, flips, bisect."""

import unittest

from talk import FAR, TalkCase, back, bisect, blame, drop, flips, put, seed

NO_CELLS = (0, 2, 98, 100, -1, -99, FAR, -FAR)
CALLS = [put(9, 0, 0, 4), put(3, 1, 0, 5, [0]), put(9, 0, 3, 4), seed(8), put(3, 1, 0, 5, [7]), drop(9)]


def showing(*values):
    """Edits behind which cell 1 shows the first of the values at position 1, the second at position 2, and so on.

    Two like values behind one another come from two cells that are not the same.
    """
    return [put(1, 0, 0 if step % 2 else 2, value) for step, value in enumerate(values)]


class Blame(TalkCase):
    def blames(self, calls, number, expected):
        """At the positions 0, 1, .. these edits are to blame."""
        for p, edit in enumerate(expected):
            self.says(calls + [blame(number, p)], [edit])

    def test_at_each_position(self):
        self.blames(CALLS, 9, [0, 1, 1, 3, 3, 3, 6])
        self.blames(CALLS, 3, [0, 0, 2, 3, 3, 5, 5])

    def test_no_change(self):
        self.blames(CALLS, 4, [0] * 7)
        for number in NO_CELLS:
            self.blames(CALLS, number, [0] * 7)
        self.says([blame(1, 0)], [0])

    def test_the_same_result_from_another_cell(self):
        self.blames(showing(5, 5, 5, 6, 6, 5, 5), 1, [0, 1, 1, 1, 4, 4, 6, 6])

    def test_a_result_that_comes_back(self):
        self.blames(showing(5, 6, 5), 1, [0, 1, 2, 3])
        self.blames([put(1, 0, 0, 5), drop(1), put(1, 0, 0, 5), seed(3)], 1, [0, 1, 2, 3, 3])

    def test_through_cells_above(self):
        calls = [put(1, 0, 0, 5, [1]), put(2, 1, 0, 5, [2]), put(3, 2, 0, 5), put(4, 3), put(3, 2, 0, 6), put(5, 1),
                 drop(5), put(6, 4, 0, 0, [0])]
        self.blames(calls, 1, [0, 1, 2, 3, 3, 5, 6, 7, 7])

    def test_by_a_seed(self):
        calls = [put(1, 0, 5), put(2, 1, 2, 0, [0]), put(3, 2, 2, 7), seed(1), seed(98)]
        self.blames(calls, 2, [0, 0, 2, 2, 4, 4])
        self.blames(calls, 3, [0, 0, 0, 3, 3, 3])

    def test_forty(self):
        calls = [put(1, 0, 0, 5)] + [seed(number) for number in range(1, 40)]
        self.says(calls + [blame(1, 40)], [1])
        self.says(showing(*range(40)) + [blame(1, 40)], [40])
        self.says(showing(*range(40)) + [blame(1, 39)], [39])

    def test_positions(self):
        for p in (-1, 7, 40, 41, FAR, -FAR):
            for number in (3, 0, FAR):
                self.refuses(CALLS, blame(number, p), -10)
        self.refuses([], blame(1, 1), -10)
        self.refuses(CALLS + [back(2)], blame(3, 3), -10)


class Flips(TalkCase):
    def test_both_ways(self):
        calls = showing(5, 0, 0, 7, 8, 0)
        self.says(calls + [flips(1, 0, 6)], [4, 1, 2, 4, 6])
        self.says([put(1, 0), put(1, 0, 0, 1), flips(1, 0, 2)], [1, 2])

    def test_only_between(self):
        calls = showing(5, 0, 0, 7, 8, 0)
        self.says(calls + [flips(1, 1, 6)], [3, 2, 4, 6])
        self.says(calls + [flips(1, 2, 5)], [1, 4])
        self.says(calls + [flips(1, 1, 2)], [1, 2])
        self.says(calls + [flips(1, 2, 3)], [0])
        self.says(calls + [flips(1, 4, 5)], [0])
        self.says(calls + [flips(1, 3, 3)], [0])
        self.says(calls + [flips(1, 6, 6)], [0])
        self.says(calls + [flips(1, 0, 0)], [0])

    def test_one_failing_and_another(self):
        calls = [put(1, 0), put(1, 0, 3), put(1, 0, 0, 4, [1]), put(2, 1, 3), put(1, 0, 0, 5, [0]), drop(1)]
        self.says(calls + [flips(1, 0, 6)], [0])

    def test_each_way_to_fail(self):
        broken = [put(1, 0), put(1, 0, 3, 5), put(1, 0, 0, 5, [0]), put(1, 0, 0, 5, [30]), put(2, 0), drop(1)]
        for edit in broken:
            self.says([put(1, 0, 0, 96), edit, flips(1, 0, 2)], [2, 1, 2])
        held = [put(2, 1, 0, 3), put(1, 0, 0, 96, [1]), put(2, 1, 3), put(2, 1, 0, 4), put(2, 1, 0, 4, [30])]
        self.says(held + [flips(1, 0, 5)], [4, 2, 3, 4, 5])

    def test_no_such_cell(self):
        for number in NO_CELLS:
            self.says(CALLS + [flips(number, 0, 6)], [0])

    def test_forty(self):
        calls = showing(*[step % 2 for step in range(1, 41)])
        self.says(calls + [flips(1, 0, 40)], [40] + list(range(1, 41)))
        self.says(calls + [flips(1, 39, 40)], [1, 40])
        self.says(calls + [flips(1, 40, 40)], [0])

    def test_positions(self):
        self.wants_positions(CALLS, lambda p, q: flips(9, p, q))
        self.wants_positions(CALLS, lambda p, q: flips(FAR, p, q))
        self.refuses([], flips(1, 0, 1), -10)


class Bisect(TalkCase):
    def test_side_by_side(self):
        self.says(showing(5, 0) + [bisect(1, 1, 2)], [2, 0])
        self.says(showing(0, 0, 5, 0, 5) + [bisect(1, 3, 4)], [4, 0])

    def test_one_flip(self):
        for first in range(2, 10):
            calls = showing(*[1 if p < first else 0 for p in range(1, 10)])
            looked_at = 3
            self.says(calls + [bisect(1, 1, 9)], [first, looked_at])

    def test_the_whole_part(self):
        # m is 2: then 3, if the cell passes at 2.
        self.says(showing(1, 0, 0, 0) + [bisect(1, 1, 4)], [2, 1])
        self.says(showing(1, 1, 0, 0) + [bisect(1, 1, 4)], [3, 2])
        self.says(showing(1, 1, 1, 0) + [bisect(1, 1, 4)], [4, 2])
        self.says([seed(1)] + showing(1, 0, 0, 0) + [bisect(1, 2, 5)], [3, 1])

    def test_several_flips(self):
        self.says(showing(1, 0, 1, 1, 0) + [bisect(1, 1, 5)], [5, 2])
        self.says(showing(1, 1, 0, 1, 0) + [bisect(1, 1, 5)], [3, 2])
        self.says(showing(1, 0, 0, 1, 0) + [bisect(1, 1, 5)], [2, 2])
        self.says(showing(1, 0, 1, 0) + [bisect(1, 1, 4)], [2, 1])
        self.says(showing(1, 0, 1, 0) + [bisect(1, 3, 4)], [4, 0])

    def test_forty(self):
        calls = showing(*([1] * 39 + [0]))
        # 1..40: 20, 30, 35, 37, 38, 39.
        self.says(calls + [bisect(1, 1, 40)], [40, 6])
        # 20, 10, 5, 3, 2.
        self.says(showing(*([1] + [0] * 39)) + [bisect(1, 1, 40)], [2, 5])
        # 20, 30, 25, 22, 21.
        self.says(showing(*([1] * 20 + [0] * 20)) + [bisect(1, 1, 40)], [21, 5])

    def test_each_way_to_fail(self):
        for edit in [put(1, 0), put(1, 0, 3, 5), put(1, 0, 0, 5, [0]), put(1, 0, 0, 5, [30]), put(2, 0), drop(1)]:
            self.says([put(1, 0, 0, 96), edit, seed(4), bisect(1, 1, 3)], [2, 1])

    def test_it_fails_at_p_or_passes_at_q(self):
        self.refuses(showing(0, 0), bisect(1, 1, 2), -16)
        self.refuses(showing(0, 1), bisect(1, 1, 2), -16)
        self.refuses(showing(1, 1), bisect(1, 1, 2), -16)
        self.refuses(showing(1, 0, 1), bisect(1, 1, 3), -16)
        self.refuses(showing(1, 0), bisect(1, 0, 2), -16)
        self.refuses([put(1, 0, 3, 5), put(1, 0)], bisect(1, 1, 2), -16)

    def test_the_same_position(self):
        self.refuses([], bisect(1, 0, 0), -16)
        for p in range(4):
            self.refuses(showing(1, 0, 1), bisect(1, p, p), -16)

    def test_no_such_cell(self):
        for number in NO_CELLS:
            self.refuses(CALLS, bisect(number, 1, 6), -16)

    def test_positions(self):
        self.wants_positions(CALLS, lambda p, q: bisect(9, p, q))
        self.wants_positions(CALLS, lambda p, q: bisect(FAR, p, q))
        self.refuses(showing(1, 0), bisect(1, 2, 1), -10)
        self.refuses([], bisect(1, 0, 1), -10)


if __name__ == "__main__":
    unittest.main()
