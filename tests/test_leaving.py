"""Promises 4, 12 and 13: guilty and shrink."""

import unittest

from talk import FAR, TalkCase, back, drop, guilty, put, seed, shrink

NO_CELLS = (0, 30, 100, -1, FAR, -FAR)
FORTY = [seed(number) for number in range(1, 41)]
# Cells 1 to 12, each of which passes.
TWELVE = [put(number, number, 0, number) for number in range(1, 13)]
# Cell 1 passes while cell 2 shows something other than 0.
PAIR = [put(1, 1, 1, 1, [2]), put(2, 2, 0, 5)]
# Cell 3 refuses, shows 0 or shows something else by what the cells 1 and 2 show.
TRIPLE = [put(1, 1), put(2, 2), put(3, 3, 3, 8, [1, 2])]


class Guilty(TalkCase):
    def test_one(self):
        calls = PAIR + [seed(3), put(2, 2), seed(4), put(3, 3)]
        self.says(calls + [guilty(1, 0, 6)], [1, 4])
        self.says(calls + [guilty(1, 3, 4)], [1, 4])
        self.says(calls + [guilty(1, 2, 6)], [1, 4])
        self.says(calls + [guilty(2, 0, 6)], [1, 4])

    def test_only_between(self):
        calls = PAIR + [seed(3), put(2, 2), seed(4), put(3, 3)]
        self.says(calls + [guilty(1, 4, 6)], [0])
        self.says(calls + [guilty(1, 5, 6)], [0])

    def test_up_to_q(self):
        # What stands behind q is not done: there the cell passes again.
        calls = PAIR + [put(2, 2), put(2, 2, 0, 9)]
        self.says(calls + [guilty(1, 0, 3)], [1, 3])
        self.refuses(calls, guilty(1, 0, 4), -15)

    def test_several_of_which_each_is_enough(self):
        # The value 97 mod 97 is 0: it is another as soon as one of the three parts is left out.
        calls = [put(4, 4, 0, 0, [1, 2, 3])] + [put(number, number) for number in (1, 2, 3)]
        calls = calls + [put(1, 1, 0, 40), put(2, 2, 0, 40), put(3, 3, 0, 17)]
        self.says(calls + [guilty(4, 0, 7)], [3, 5, 6, 7])
        self.says(calls + [guilty(4, 5, 7)], [2, 6, 7])
        self.says(calls + [guilty(4, 4, 6)], [-15])

    def test_none_by_itself(self):
        self.says(PAIR + [put(2, 2), put(3, 2), guilty(1, 0, 4)], [0])
        self.says(PAIR + [put(2, 2), put(2, 2, 3), guilty(1, 0, 4)], [0])
        self.says(PAIR + [drop(2), drop(1), guilty(1, 0, 4)], [0])

    def test_all_others_are_done(self):
        self.says(PAIR + [put(2, 2), put(3, 2), drop(3), guilty(1, 0, 5)], [1, 3])
        self.says(PAIR + [put(3, 2), put(2, 2, 0, 6), guilty(1, 0, 4)], [1, 3])

    def test_a_drop(self):
        self.says(PAIR + [drop(2), guilty(1, 0, 3)], [1, 3])
        self.says(PAIR + [drop(1), guilty(1, 0, 3)], [1, 3])

    def test_a_seed(self):
        # 41 times 97 and 41 times 9797 are 0 mod 97.
        self.says([seed(1), put(97, 1, 5), seed(97), guilty(97, 0, 3)], [1, 3])
        self.says([put(97, 1, 5), seed(1), seed(0), guilty(97, 0, 3)], [1, 3])

    def test_a_later_put_finds_no_room(self):
        # Without the drop there are 12 cells, so the other cell that makes name 1 is not put.
        calls = TWELVE + [drop(12), put(13, 1)]
        self.says(calls + [guilty(1, 12, 14)], [2, 13, 14])
        self.says(calls + [guilty(1, 0, 14)], [2, 13, 14])

    def test_a_later_put_finds_no_room_and_the_cell_still_fails(self):
        calls = TWELVE[:11] + [put(20, 20), drop(20), put(13, 13, 0, 1), put(1, 1, 0, 0)]
        self.says(calls + [guilty(1, 0, 15)], [1, 15])

    def test_a_put_without_room_and_a_later_one_with_room(self):
        # Without edit 13 the put of edit 14 finds no room; edit 15 makes room, and edit 16 puts a cell that passes.
        calls = TWELVE + [drop(12), put(13, 13, 3, 1), drop(11), put(13, 13, 0, 0, [12])]
        self.says(calls + [guilty(13, 0, 16)], [1, 13])

    def test_a_later_drop_finds_no_cell(self):
        calls = PAIR + [put(3, 2), drop(3), put(2, 2)]
        self.says(calls + [guilty(1, 0, 5)], [1, 5])
        self.says([put(1, 1, 0, 5), drop(1), put(1, 1), drop(1), guilty(1, 0, 4)], [0])
        self.says([put(1, 1, 0, 5), drop(1), guilty(1, 0, 2)], [1, 2])

    def test_a_drop_of_a_cell_whose_double_is_gone(self):
        self.says([put(1, 1, 0, 5), put(2, 1, 0, 5), drop(1), put(2, 2, 3), guilty(1, 0, 4)], [1, 3])

    def test_each_way_to_fail(self):
        for edit in [put(1, 1), put(1, 1, 3, 5), put(1, 1, 0, 5, [1]), put(1, 1, 0, 5, [30]), put(3, 1), drop(1)]:
            self.says(PAIR + [edit, guilty(1, 0, 3)], [1, 3])
        self.says(PAIR + [put(2, 2, 3), guilty(1, 0, 3)], [1, 3])

    def test_the_same_position(self):
        self.says([guilty(1, 0, 0)], [0])
        self.says(PAIR + [drop(1), guilty(1, 3, 3)], [0])
        self.says(PAIR + [drop(1), guilty(1, 0, 0)], [0])

    def test_it_passes_at_q(self):
        self.refuses(PAIR, guilty(1, 0, 2), -15)
        self.refuses(PAIR, guilty(1, 2, 2), -15)
        self.refuses(PAIR + [drop(2)], guilty(1, 1, 2), -15)
        self.says(PAIR + [guilty(1, 0, 1)], [0])

    def test_no_such_cell(self):
        for number in NO_CELLS:
            self.says(TWELVE + [drop(3), seed(4), guilty(number, 0, 14)], [0])

    def test_forty(self):
        self.says(FORTY + [guilty(1, 0, 40)], [0])
        self.says([put(1, 1, 0, 3)] + FORTY[:38] + [put(1, 1), guilty(1, 0, 40)], [1, 40])
        self.says([put(1, 1, 0, 3), put(1, 1)] + FORTY[:38] + [guilty(1, 0, 40)], [1, 2])
        # The last seed is 97, with which cell 97 has the start 9797, that is 101 times 97.
        calls = [put(97, 1, 5)] + [seed(number) for number in range(59, 98)]
        self.says(calls + [guilty(97, 0, 40)], [1, 40])

    def test_positions(self):
        self.wants_positions(PAIR + [drop(2)], lambda p, q: guilty(1, p, q))
        self.wants_positions(PAIR, lambda p, q: guilty(1, p, q))
        self.wants_positions(PAIR, lambda p, q: guilty(FAR, p, q))
        self.refuses([], guilty(1, 0, 1), -10)
        self.refuses(PAIR + [drop(1), back(2)], guilty(1, 0, 3), -10)


class Shrink(TalkCase):
    def test_one_is_left(self):
        calls = PAIR + [seed(3), put(2, 2), seed(4), put(3, 3)]
        self.says(calls + [shrink(1, 2, 6)], [1, 4])
        self.says(calls + [shrink(1, 3, 4)], [1, 4])

    def test_all_can_go_where_the_cell_fails_at_p(self):
        calls = PAIR + [seed(3), put(2, 2), seed(4), put(3, 3)]
        self.says(calls + [shrink(1, 0, 6)], [0])
        self.says(calls + [shrink(1, 1, 6)], [0])
        self.says(calls + [shrink(1, 4, 6)], [0])

    def test_the_first_goes_first(self):
        # Either of the two breaks the cell: the first is gone through first, so the last is left.
        self.says(PAIR + [put(2, 2), put(3, 2), shrink(1, 2, 4)], [1, 4])
        self.says(PAIR + [drop(2), drop(1), shrink(1, 2, 4)], [1, 4])
        self.says(PAIR + [drop(1), drop(2), seed(1), shrink(1, 2, 5)], [1, 4])

    def test_several_are_left(self):
        calls = [put(4, 4, 0, 96, [1, 2, 3])] + [put(number, number) for number in (1, 2, 3)]
        calls = calls + [put(1, 1, 0, 40), seed(2), put(2, 2, 0, 40), put(3, 3, 0, 18)]
        self.says(calls + [shrink(4, 4, 8)], [3, 5, 7, 8])

    def test_with_the_edits_up_to_p(self):
        calls = [put(1, 1, 0, 9), put(1, 1), put(1, 1, 0, 5), seed(3), put(1, 1, 3)]
        self.says(calls + [shrink(1, 2, 5)], [0])
        self.says(calls + [shrink(1, 3, 5)], [1, 5])
        self.says(calls + [shrink(1, 1, 5)], [1, 5])

    def test_up_to_q(self):
        calls = PAIR + [put(2, 2), put(2, 2, 0, 9), put(2, 2, 3)]
        self.says(calls + [shrink(1, 2, 3)], [1, 3])
        self.says(calls + [shrink(1, 2, 5)], [1, 5])

    def test_through_it_twice(self):
        # Cell 2 hides that cell 1 is mended; without the mending neither is needed.
        self.says([put(1, 1), put(2, 1), put(1, 1, 0, 5), shrink(1, 1, 3)], [0])

    def test_through_it_three_times(self):
        calls = TRIPLE + [put(1, 1, 0, 82), put(2, 2, 0, 15), put(3, 3, 0, 0, [1, 2])]
        self.says(calls + [shrink(3, 3, 6)], [0])

    def test_through_it_three_times_and_one_is_left(self):
        calls = TRIPLE + [put(4, 4, 0, 5), put(4, 4, 1, 1, [3]), put(1, 1, 0, 82), put(2, 2, 0, 15),
                          put(3, 3, 0, 0, [1, 2])]
        self.says(calls + [shrink(4, 4, 8)], [1, 5])

    def test_a_later_put_finds_no_room(self):
        # Without the drop the other cell that makes name 1 finds 12 cells, so both are needed.
        calls = TWELVE + [seed(1), drop(12), put(13, 1), seed(2)]
        self.says(calls + [shrink(1, 12, 16)], [2, 14, 15])

    def test_a_later_put_finds_room(self):
        calls = TWELVE[:11] + [put(20, 20), drop(20), put(13, 1), seed(2)]
        self.says(calls + [shrink(1, 11, 15)], [1, 14])

    def test_a_later_drop_finds_no_cell(self):
        calls = PAIR + [put(3, 3), drop(3), put(2, 2)]
        self.says(calls + [shrink(1, 2, 5)], [1, 5])
        # Without the put at 3, the drop at 4 does nothing, and cell 1 fails by the drop at 5 alone.
        calls = PAIR + [put(3, 2), drop(3), drop(2)]
        self.says(calls + [shrink(1, 2, 5)], [1, 5])

    def test_a_drop_and_a_put_of_the_same_cell(self):
        # The first of the two is tried first, and the cell fails by the other alone.
        self.says([put(1, 1, 0, 5), drop(1), put(1, 1), shrink(1, 1, 3)], [1, 3])
        self.says([put(1, 1, 0, 5), put(1, 1), drop(1), shrink(1, 1, 3)], [1, 3])

    def test_the_same_position(self):
        self.says([shrink(1, 0, 0)], [0])
        self.says(PAIR + [drop(1), shrink(1, 3, 3)], [0])

    def test_it_passes_at_q(self):
        self.refuses(PAIR, shrink(1, 0, 2), -15)
        self.refuses(PAIR, shrink(1, 2, 2), -15)
        self.refuses(PAIR + [put(2, 2)], shrink(1, 1, 2), -15)

    def test_twelve_between(self):
        calls = [put(1, 1, 0, 3)] + FORTY[:11] + [put(1, 1)]
        self.says(calls + [shrink(1, 1, 13)], [1, 13])
        self.says([put(1, 1, 0, 3), put(1, 1)] + FORTY[:11] + [shrink(1, 1, 13)], [1, 2])
        self.says(FORTY + [shrink(1, 28, 40)], [0])

    def test_twelve_are_left(self):
        # Cell 12 shows 1 and what is added: 10 times 8 by the cells that read nothing, 8 by cell 7 and 8 by itself
        # make 97, so that it shows 0 when all twelve edits are done, and something else when one is left out.
        leaves = [1, 2, 3, 4, 5, 6, 8, 9, 10, 11]
        calls = [put(number, number) for number in leaves]
        calls = calls + [put(7, 7, 0, 0, [1, 2, 3, 4, 5, 6]), put(12, 12, 0, 1, [7, 8, 9, 10, 11])]
        calls = calls + [put(12, 12, 0, 9, [7, 8, 9, 10, 11]), put(7, 7, 0, 8, [1, 2, 3, 4, 5, 6])]
        calls = calls + [put(number, number, 0, 8) for number in leaves]
        self.says(calls + [shrink(12, 12, 24)], [12] + list(range(13, 25)))
        self.says(calls + [guilty(12, 12, 24)], [12] + list(range(13, 25)))

    def test_more_than_twelve_between(self):
        calls = [put(1, 1, 0, 3)] + FORTY[:12] + [put(1, 1)]
        self.refuses(calls, shrink(1, 1, 14), -14)
        self.refuses(calls, shrink(1, 0, 14), -14)
        self.says(calls + [shrink(1, 2, 14)], [1, 14])
        self.refuses(FORTY, shrink(1, 27, 40), -14)
        self.refuses(FORTY, shrink(1, 0, 40), -14)

    def test_order_of_refusals(self):
        calls = [put(1, 1, 0, 3)] + FORTY[:13]
        self.refuses(calls, shrink(1, 1, 14), -15)
        self.refuses(calls, shrink(1, 0, 14), -15)
        self.refuses(calls, shrink(1, 0, 15), -10)
        self.refuses(calls, shrink(1, 14, 1), -10)
        self.refuses(calls, shrink(1, -1, 14), -10)
        self.refuses(calls, shrink(2, 0, 14), -14)

    def test_no_such_cell(self):
        for number in NO_CELLS:
            self.says(TWELVE + [shrink(number, 0, 12)], [0])
            self.refuses(TWELVE + [seed(1)], shrink(number, 0, 13), -14)

    def test_positions(self):
        self.wants_positions(PAIR + [drop(2)], lambda p, q: shrink(1, p, q))
        self.wants_positions(PAIR, lambda p, q: shrink(1, p, q))
        self.wants_positions(FORTY[:20], lambda p, q: shrink(-FAR, p, q))
        self.refuses([], shrink(1, 0, 1), -10)


if __name__ == "__main__":
    unittest.main()
