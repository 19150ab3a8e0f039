"""Promise 1: put, drop, seed."""

import unittest

from talk import FAR, TalkCase, back, drop, now, put, result, results, seed, talk

TWELVE = [put(number, number) for number in range(1, 13)]
FORTY = [seed(number) for number in range(1, 41)]
ONE = [put(5, 3, 0, 7, [1, 2])]


class Put(TalkCase):
    def test_new_and_changed(self):
        told = talk([put(1, 0, 0, 5), put(2, 1, 0, 6, [0]), put(1, 0, 0, 8), drop(1), put(1, 0, 0, 9), now()])
        self.assertEqual(told, [[1], [1], [0], [0], [1], [5]])

    def test_it_becomes_that_cell(self):
        self.shows([put(1, 0, 0, 5), put(2, 1, 0, 6, [0])], [(1, 1, 9), (2, 1, 15)], [put(1, 0, 2, 9)])

    def test_each_part_alone_is_a_change(self):
        for changed in (put(5, 4, 0, 7, [1, 2]), put(5, 3, 1, 7, [1, 2]), put(5, 3, 0, 8, [1, 2]),
                        put(5, 3, 0, 7, [2, 1]), put(5, 3, 0, 7, [1]), put(5, 3, 0, 7, [1, 2, 4]), put(5, 3, 0, 7)):
            self.says(ONE + [changed], [0])
            self.says(ONE + [changed, now()], [2])
        self.says(ONE + [put(6, 3, 0, 7, [1, 2])], [1])

    def test_edges_are_allowed(self):
        for call in (put(1, 0), put(99, 31), put(1, 0, 0, 0), put(1, 0, 5, 96), put(1, 0, 0, 0, [0, 31]),
                     put(1, 31, 0, 0, [0, 1, 2, 3, 4, 5])):
            self.says([call], [1])
            self.says([call, now()], [1])

    def test_number(self):
        for number in (0, 100, -1, FAR, -FAR):
            self.refuses([], put(number, 0), -1)
            self.refuses(ONE, put(number, 0), -1)

    def test_name_made(self):
        for name in (-1, 32, FAR, -FAR):
            self.refuses(ONE, put(1, name), -5)

    def test_name_read(self):
        for name in (-1, 32, FAR, -FAR):
            self.refuses(ONE, put(1, 0, 0, 0, [name]), -5)
            self.refuses(ONE, put(1, 0, 0, 0, [1, 2, name]), -5)
        self.refuses(ONE, put(1, 0, 0, 0, [FAR] * 40), -5)

    def test_read_twice(self):
        self.refuses(ONE, put(1, 0, 0, 0, [4, 4]), -6)
        self.refuses(ONE, put(1, 0, 0, 0, [4, 5, 6, 4]), -6)
        self.refuses(ONE, put(1, 0, 0, 0, [0, 0]), -6)

    def test_too_many_read(self):
        self.refuses(ONE, put(1, 0, 0, 0, [0, 1, 2, 3, 4, 5, 6]), -4)
        self.refuses(ONE, put(1, 0, 0, 0, range(32)), -4)

    def test_kind(self):
        for kind in (-1, 6, FAR, -FAR):
            self.refuses(ONE, put(1, 0, kind), -2)

    def test_constant(self):
        for constant in (-1, 97, FAR, -FAR):
            self.refuses(ONE, put(1, 0, 0, constant), -3)

    def test_twelve_cells(self):
        self.says(TWELVE, [1])
        self.refuses(TWELVE, put(13, 13), -7)
        self.says(TWELVE + [put(12, 20)], [0])
        self.says(TWELVE + [drop(4), put(13, 13)], [1])
        self.refuses(TWELVE + [drop(4), put(13, 13)], put(4, 4), -7)

    def test_just_so(self):
        self.refuses(ONE, ONE[0], -12)
        self.refuses([put(1, 0)], put(1, 0), -12)
        self.refuses(TWELVE, put(12, 12), -12)

    def test_just_so_is_asked_of_now(self):
        self.says([put(1, 0), put(1, 1), put(1, 0)], [0])
        self.says([put(1, 0), drop(1), put(1, 0)], [1])
        self.refuses([put(1, 0), put(1, 1), back(1)], put(1, 0), -12)

    def test_forty_edits(self):
        self.says(FORTY[:39] + [put(1, 0)], [1])
        self.says(FORTY[:39] + [put(1, 0), now()], [40])
        self.refuses(FORTY, put(1, 0), -13)
        self.refuses(FORTY[:39] + [put(1, 0)], put(1, 1), -13)
        self.says(FORTY + [back(39), put(1, 0)], [1])

    def test_order_of_refusals(self):
        full = TWELVE + FORTY[:28]
        self.refuses(full, put(0, 32, 6, 97, [32, 1, 1, 2, 3, 4, 5, 6]), -1)
        self.refuses(full, put(13, 32, 6, 97, [1, 1, 2, 3, 4, 5, 6]), -5)
        self.refuses(full, put(13, 1, 6, 97, [1, 1, 2, 3, 4, 5, 32]), -5)
        self.refuses(full, put(13, 1, 6, 97, [1, 1, 2, 3, 4, 5, 6]), -6)
        self.refuses(full, put(13, 1, 6, 97, list(range(32)) + [0]), -6)
        self.refuses(full, put(13, 1, 6, 97, [1, 2, 3, 4, 5, 6, 7]), -4)
        self.refuses(full, put(13, 1, 6, 97), -2)
        self.refuses(full, put(13, 1, 5, 97), -3)
        self.refuses(full, put(13, 1, 5, 96), -7)
        self.refuses(full, put(12, 12), -12)
        self.refuses(full, put(12, 13), -13)


class Drop(TalkCase):
    def test_drop(self):
        self.shows([put(1, 0), put(2, 1, 0, 3)], [(2, 1, 3)], [drop(1)])
        self.says([put(1, 0), drop(1)], [0])
        self.says([put(1, 0), drop(1), now()], [2])
        self.says([put(99, 31), drop(99)], [0])

    def test_earlier_positions_stay(self):
        self.says([put(1, 0, 0, 4), drop(1), results(1)], [1, 1, 1, 4])

    def test_no_cell(self):
        for number in (0, 1, 2, 6, 99, 100, -5, FAR, -FAR):
            self.refuses(ONE, drop(number), -8)
        self.refuses([], drop(1), -8)
        self.refuses(ONE + [drop(5)], drop(5), -8)
        self.refuses(ONE + [back(0)], drop(5), -8)

    def test_forty_edits(self):
        self.says(ONE + FORTY[:38] + [drop(5)], [0])
        self.refuses(ONE + FORTY[:39], drop(5), -13)
        self.refuses(ONE + FORTY[:39], drop(6), -8)


class Seed(TalkCase):
    def test_seed(self):
        self.says([seed(1)], [0])
        self.says([seed(1000)], [0])
        self.says([seed(1000), now()], [1])
        self.says([seed(1000), seed(0)], [0])

    def test_bounds(self):
        for number in (-1, 1001, FAR, -FAR):
            self.refuses([], seed(number), -9)
            self.refuses(ONE + [seed(7)], seed(number), -9)

    def test_nothing_would_change(self):
        self.refuses([], seed(0), -12)
        self.refuses([seed(1000)], seed(1000), -12)
        self.refuses([seed(3), seed(4), back(1)], seed(3), -12)
        self.says([seed(3), seed(4), seed(3)], [0])
        self.says([seed(3), back(0), seed(3)], [0])

    def test_forty_edits(self):
        self.says(FORTY, [0])
        self.refuses(FORTY, seed(41), -13)
        self.refuses(FORTY, seed(40), -12)
        self.refuses(FORTY, seed(1001), -9)

    def test_what_is_shown_changes(self):
        cells = [put(7, 0, 5, 2)]
        self.shows(cells, [(7, 1, (41 * 7 + 26) % 97)])
        self.shows(cells, [(7, 1, (41 * 1207 + 26) % 97)], [seed(12)])
        self.says(cells + [seed(12), result(7, 1)], [1, (41 * 7 + 26) % 97])


if __name__ == "__main__":
    unittest.main()
