"""Promise 5: result, results; and the words about cells, troubles, the running order and workings."""

import unittest

from cellmoments.cell import Cell
from cellmoments.running import running_order, working_of
from cellmoments.working import comes_to
from talk import FAR, TalkCase, drop, put, result, results, seed


def constants(*values):
    """Cells 1, 2, .. that make the names 1, 2, .. and show these values."""
    return [put(number, number, 0, value) for number, value in enumerate(values, start=1)]


class Kinds(TalkCase):
    def reading(self, kind, constant, values, expected):
        """A cell 50 of that kind, above which cells show the values, has that result."""
        cells = constants(*values) + [put(50, 20, kind, constant, range(1, len(values) + 1))]
        self.says(cells + [result(50, len(cells))], list(expected))

    def test_kind_0(self):
        self.reading(0, 0, [], (1, 0))
        self.reading(0, 96, [], (1, 96))
        self.reading(0, 5, [10, 20], (1, 35))
        self.reading(0, 96, [1], (1, 0))
        self.reading(0, 96, [96] * 6, (1, 96 * 7 % 97))

    def test_kind_1(self):
        self.reading(1, 7, [], (1, 7))
        self.reading(1, 3, [5, 4], (1, 60))
        self.reading(1, 10, [10], (1, 3))
        self.reading(1, 0, [10], (1, 0))
        self.reading(1, 10, [10, 0], (1, 0))
        self.reading(1, 96, [96] * 6, (1, 96 ** 7 % 97))

    def test_kind_2(self):
        self.reading(2, 7, [], (1, 7))
        self.reading(2, 7, [3, 6], (1, 7))
        self.reading(2, 7, [3, 96, 6], (1, 96))
        self.reading(2, 0, [0], (1, 0))

    def test_kind_3(self):
        self.reading(3, 5, [], (2, 0))
        self.reading(3, 5, [0, 0], (2, 0))
        self.reading(3, 5, [96, 1], (2, 0))
        self.reading(3, 0, [96, 1], (2, 0))
        self.reading(3, 5, [7], (1, 5000 // 7 % 97))
        self.reading(3, 96, [90, 10], (1, 96000 // 3 % 97))
        self.reading(3, 1, [96], (1, 1000 // 96 % 97))
        self.reading(3, 0, [9], (1, 0))

    def test_kind_4(self):
        self.reading(4, 5, [], (1, 5))
        self.reading(4, 5, [15], (1, 5))
        self.reading(4, 5, [16], (1, 6))
        self.reading(4, 5, [15, 16], (1, 6))
        self.reading(4, 96, [96] * 6, (1, (96 + 36) % 97))

    def test_kind_5(self):
        self.reading(5, 0, [], (1, 41 * 50 % 97))
        self.reading(5, 3, [4, 9], (1, (41 * 50 + 39 + 13) % 97))

    def test_kind_5_and_the_seed(self):
        cells = [put(1, 0, 5, 1), put(99, 1, 5, 96, [0])]
        first = (41 * 1 + 13) % 97
        self.shows(cells, [(1, 1, first), (99, 1, (41 * 99 + 13 * 96 + first) % 97)])
        first = (41 * 100001 + 13) % 97
        self.shows(cells, [(1, 1, first), (99, 1, (41 * 100099 + 13 * 96 + first) % 97)], [seed(1000)])

    def test_other_kinds_have_no_start(self):
        for kind in range(5):
            cells = [put(1, 0, 0, 9), put(2, 1, kind, 8, [0])]
            before = [(1, 1, 9), (2, 1, (17, 72, 9, 8000 // 9 % 97, 8)[kind])]
            self.shows(cells, before)
            self.shows(cells, before, [seed(500)])

    def test_a_working(self):
        self.assertEqual(comes_to((0, 90, 12345, (10, 20))), 23)
        self.assertEqual(comes_to((5, 1, 100, (10, 20))), (4100 + 13 + 30) % 97)
        self.assertIsNone(comes_to((3, 1, 0, ())))

    def test_the_working_of_a_cell(self):
        shown = {1: (1, 40), 2: (1, 7), 3: (2, 0)}
        self.assertEqual(working_of(Cell(9, 0, 4, 6, [5, 4]), 1000, [2, 1], shown), (4, 6, 0, (7, 40)))
        self.assertEqual(working_of(Cell(9, 0, 5, 6, [4, 5]), 1000, [1, 2], shown), (5, 6, 100009, (40, 7)))
        self.assertEqual(working_of(Cell(9, 0, 0, 6, []), 1000, [], shown), (0, 6, 0, ()))
        self.assertIsNone(working_of(Cell(9, 0, 5, 6, [4, 6]), 1000, [1, 3], shown))


class Troubles(TalkCase):
    def test_double(self):
        self.shows([put(1, 0), put(2, 0, 3, 5), put(3, 1, 0, 4)], [(1, 4, 2), (2, 4, 2), (3, 1, 4)])
        self.shows([put(1, 0), put(2, 0), put(3, 0)], [(1, 4, 2), (2, 4, 2), (3, 4, 2)])

    def test_double_comes_first(self):
        self.shows([put(1, 0, 0, 0, [0, 9]), put(2, 0, 0, 0, [9])], [(1, 4, 2), (2, 4, 2)])

    def test_double_no_more(self):
        self.shows([put(1, 0, 0, 6), put(2, 0, 0, 7)], [(2, 1, 7)], [drop(1)])
        self.shows([put(1, 0, 0, 6), put(2, 0, 0, 7)], [(1, 1, 6), (2, 1, 7)], [put(1, 1, 0, 6)])

    def test_circle_of_one(self):
        self.shows([put(1, 0, 0, 5, [0])], [(1, 4, 3)])

    def test_circle_of_several(self):
        cells = [put(1, 1, 0, 0, [2]), put(2, 2, 0, 0, [3]), put(3, 3, 0, 0, [1]), put(4, 4, 0, 8)]
        self.shows(cells, [(1, 4, 3), (2, 4, 3), (3, 4, 3), (4, 1, 8)])

    def test_circle_of_twelve(self):
        cells = [put(number, number, 0, 0, [number % 12 + 1]) for number in range(1, 13)]
        self.shows(cells, [(number, 4, 3) for number in range(1, 13)])
        self.shows(cells[:11], [(number, 4, 6) for number in range(1, 11)] + [(11, 4, 4)])

    def test_circle_before_missing_and_unsure(self):
        doubles = [put(8, 8), put(9, 8)]
        self.shows([put(1, 1, 0, 0, [30, 8, 1])] + doubles, [(1, 4, 3), (8, 4, 2), (9, 4, 2)])

    def test_no_circle_through_a_double_name(self):
        self.shows([put(1, 1, 0, 0, [2]), put(2, 2, 0, 0, [1]), put(3, 2)], [(1, 4, 5), (2, 4, 2), (3, 4, 2)])

    def test_missing(self):
        self.shows([put(1, 0, 0, 5, [1])], [(1, 4, 4)])
        self.shows([put(1, 0, 0, 5), put(2, 1, 0, 5, [0, 31])], [(1, 1, 5), (2, 4, 4)])
        self.shows([put(1, 0, 0, 5), put(2, 1, 0, 5, [0])], [(2, 4, 4)], [drop(1)])

    def test_missing_before_unsure(self):
        doubles = [put(8, 8), put(9, 8)]
        self.shows([put(1, 1, 0, 0, [8, 30])] + doubles, [(1, 4, 4), (8, 4, 2), (9, 4, 2)])

    def test_missing_before_behind(self):
        self.shows([put(1, 1, 0, 0, [1]), put(2, 2, 0, 0, [1, 9])], [(1, 4, 3), (2, 4, 4)])

    def test_unsure(self):
        self.shows([put(1, 0), put(2, 0), put(3, 1, 0, 5, [0])], [(1, 4, 2), (2, 4, 2), (3, 4, 5)])
        self.shows([put(1, 0), put(2, 0), put(3, 0), put(4, 1, 0, 5, [0])],
                   [(1, 4, 2), (2, 4, 2), (3, 4, 2), (4, 4, 5)])

    def test_unsure_before_behind(self):
        self.shows([put(1, 0), put(2, 0), put(3, 1, 0, 0, [30]), put(4, 2, 0, 0, [1, 0])],
                   [(1, 4, 2), (2, 4, 2), (3, 4, 4), (4, 4, 5)])

    def test_behind_each_trouble(self):
        self.shows([put(1, 1, 0, 0, [1]), put(2, 2, 0, 0, [1])], [(1, 4, 3), (2, 4, 6)])
        self.shows([put(1, 1, 0, 0, [9]), put(2, 2, 0, 0, [1])], [(1, 4, 4), (2, 4, 6)])
        self.shows([put(1, 1, 0, 0, [9]), put(2, 2, 0, 0, [1]), put(3, 9), put(4, 9)],
                   [(1, 4, 5), (2, 4, 6), (3, 4, 2), (4, 4, 2)])

    def test_behind_from_far(self):
        cells = [put(1, 1, 0, 0, [2]), put(2, 2, 0, 0, [3]), put(3, 3, 0, 0, [9])]
        self.shows(cells, [(1, 4, 6), (2, 4, 6), (3, 4, 4)])

    def test_behind_by_one_of_several(self):
        self.shows([put(1, 1, 0, 6), put(2, 2, 0, 0, [9]), put(3, 3, 0, 0, [1, 2])], [(1, 1, 6), (2, 4, 4), (3, 4, 6)])

    def test_below_a_troubled_cell_does_not_count(self):
        self.shows([put(1, 1, 0, 6), put(2, 2, 0, 0, [1, 9])], [(1, 1, 6), (2, 4, 4)])

    def test_troubles_before_refusals(self):
        self.shows([put(1, 1, 3, 5), put(2, 2, 0, 5, [1, 9])], [(1, 2, 0), (2, 4, 4)])


class Running(TalkCase):
    def test_against_the_numbers(self):
        self.shows([put(1, 1, 0, 1, [2]), put(2, 2, 0, 2, [3]), put(3, 3, 0, 3)], [(1, 1, 6), (2, 1, 5), (3, 1, 3)])

    def test_one_cell_read_by_two(self):
        cells = [put(4, 4, 0, 1, [2, 3]), put(2, 2, 1, 2, [9]), put(3, 3, 1, 3, [9]), put(90, 9, 0, 5)]
        self.shows(cells, [(2, 1, 10), (3, 1, 15), (4, 1, 26), (90, 1, 5)])

    def test_names_and_numbers_are_apart(self):
        self.shows([put(1, 2, 0, 10), put(2, 1, 0, 20, [2])], [(1, 1, 10), (2, 1, 30)])

    def test_twelve_in_a_row(self):
        cells = [put(number, number, 0, 1, [number + 1]) for number in range(1, 12)] + [put(12, 12, 0, 1)]
        self.shows(cells, [(number, 1, 13 - number) for number in range(1, 13)])

    def test_six_names_read(self):
        cells = [put(number, number, 0, number) for number in range(1, 7)] + [put(7, 7, 0, 0, [6, 5, 4, 3, 2, 1])]
        self.shows(cells, [(number, 1, number) for number in range(1, 7)] + [(7, 1, 21)])

    def test_refused_and_held(self):
        cells = [put(1, 1, 3, 5), put(2, 2, 0, 5, [1]), put(3, 3, 1, 5, [2]), put(4, 4, 3, 5, [5, 3]), put(5, 5, 0, 5)]
        self.shows(cells, [(1, 2, 0), (2, 3, 0), (3, 3, 0), (4, 3, 0), (5, 1, 5)])

    def test_held_by_one_of_several(self):
        cells = [put(1, 1, 0, 5), put(2, 2, 3, 5), put(3, 3, 0, 5, [1, 2]), put(4, 4, 0, 5, [2, 1])]
        self.shows(cells, [(1, 1, 5), (2, 2, 0), (3, 3, 0), (4, 3, 0)])

    def test_no_longer_refused(self):
        cells = [put(1, 1, 0, 0), put(2, 2, 3, 5, [1]), put(3, 3, 0, 1, [2])]
        self.shows(cells, [(1, 1, 0), (2, 2, 0), (3, 3, 0)])
        self.shows(cells, [(1, 1, 50), (2, 1, 3), (3, 1, 4)], [put(1, 1, 0, 50)])

    def test_running_order(self):
        self.assertEqual(running_order([], {}), [])
        self.assertEqual(running_order([9, 1, 5], {1: {}, 5: {}, 9: {}}), [1, 5, 9])
        # 2 becomes ready behind 7 and is then lower than 8.
        above = {2: {7: True}, 7: {}, 8: {}, 1: {2: True, 7: True}}
        self.assertEqual(running_order([1, 2, 7, 8], above), [7, 2, 1, 8])


class Result(TalkCase):
    CALLS = [put(9, 0, 0, 4), put(3, 1, 0, 5, [0]), put(9, 0, 3, 4), seed(8), put(3, 1, 0, 5, [7]), drop(9)]

    def test_at_each_position(self):
        for p, expected in enumerate([(0, 0), (1, 4), (1, 4), (2, 0), (2, 0), (2, 0), (0, 0)]):
            self.says(self.CALLS + [result(9, p)], list(expected))
        for p, expected in enumerate([(0, 0), (0, 0), (1, 9), (3, 0), (3, 0), (4, 4), (4, 4)]):
            self.says(self.CALLS + [result(3, p)], list(expected))

    def test_the_value_0(self):
        self.says([put(1, 0), result(1, 1)], [1, 0])

    def test_no_such_cell(self):
        for number in (0, 1, 4, 8, 99, 100, -3, FAR, -FAR):
            for p in (0, 2, 6):
                self.says(self.CALLS + [result(number, p)], [0, 0])
        self.says([result(1, 0)], [0, 0])

    def test_no_position(self):
        for p in (-1, 7, 40, 41, FAR, -FAR):
            self.refuses(self.CALLS, result(3, p), -10)
            self.refuses(self.CALLS, result(FAR, p), -10)
        self.refuses([], result(1, 1), -10)

    def test_last_of_forty(self):
        calls = [put(1, 0, 5)] + [seed(number) for number in range(1, 40)]
        self.says(calls + [result(1, 40)], [1, 41 * 3901 % 97])
        self.says(calls + [result(1, 1)], [1, 41])
        self.refuses(calls, result(1, 41), -10)


class Results(TalkCase):
    def test_none(self):
        self.says([results(0)], [0])
        self.says([put(1, 0), results(0)], [0])
        self.says([seed(3), results(1)], [0])

    def test_in_order(self):
        cells = [put(50, 0, 0, 1), put(99, 1, 3), put(1, 2, 0, 2, [1]), put(7, 3, 0, 0, [3])]
        self.says(cells + [results(4)], [4, 1, 3, 0, 7, 4, 3, 50, 1, 1, 99, 2, 0])
        self.says(cells + [results(2)], [2, 50, 1, 1, 99, 2, 0])

    def test_twelve(self):
        cells = [put(number, number, 0, number) for number in range(12, 0, -1)]
        self.shows(cells, [(number, 1, number) for number in range(1, 13)])

    def test_no_position(self):
        calls = [put(1, 0), seed(1)]
        for p in (-1, 3, 40, 41, FAR, -FAR):
            self.refuses(calls, results(p), -10)
        self.refuses([], results(1), -10)


if __name__ == "__main__":
    unittest.main()
