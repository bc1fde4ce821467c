"""The calls open, value, sums, fill and row, asked through smoothmend.picture.answers."""

import time
import unittest

from calls import (
    FILL, FLAT, MOST, NONE, OPEN, SUMS, add, begin, blank, fraction, joined, last, other, part, row, single_answers,
    state_after, told, value,
)
from smoothmend.picture import answers

WHOLE_OF_24 = [(12, 2), (2, 12), (8, 3), (3, 8), (6, 4), (4, 6)]


class AtTheBeginning(unittest.TestCase):
    def test_each_call_alone(self):
        self.assertEqual(answers([7]), [2, 1, 0])
        self.assertEqual(answers([8, 0, 0]), [3, 0, 0, 1])
        self.assertEqual(answers([9]), [3, 0, 0, 1])
        self.assertEqual(answers([10]), [1, 0])
        self.assertEqual(answers([11, 0]), [2, 1, 0])

    def test_outside(self):
        self.assertEqual(answers([11, 1]), [1, -1])
        self.assertEqual(answers([8, 1, 0]), [1, -1])
        self.assertEqual(answers([8, 0, 1]), [1, -1])

    def test_the_one_pixel_as_the_part(self):
        self.assertEqual(
            answers([5, 0, 0, 7, 8, 0, 0, 9, 10, 7, 11, 0]),
            [1, 1, 2, 0, 1, 1, -4, 1, -4, 1, -4, 2, 0, 1, 2, 1, 0],
        )

    def test_whole_numbers_alone(self):
        calls = [begin(3, 1, [10, 0, 21]), OPEN, add(1, 0), OPEN, value(1, 0), value(0, 0), SUMS, row(0), FILL, row(0)]
        for number in answers(joined(calls) + joined([blank(1, 1), add(0, 0), OPEN, SUMS])):
            self.assertIs(type(number), int)


class Open(unittest.TestCase):
    def test_no_part(self):
        self.assertEqual(last(blank(3, 3), OPEN), [1, 0])
        self.assertEqual(last(blank(3, 3), part(0, 0, 3, 3), NONE, OPEN), [1, 0])
        self.assertEqual(last(blank(3, 3), part(5, 5, 3, 3), OPEN), [1, 0])

    def test_some_pixels(self):
        self.assertEqual(last(blank(3, 3), add(1, 1), OPEN), [1, 1])
        self.assertEqual(last(blank(3, 3), add(0, 0), add(2, 2), OPEN), [1, 2])
        self.assertEqual(last(blank(12, 12), part(4, 3, 4, 6), OPEN), [1, 24])

    def test_pixels_that_are_far_from_what_is_known(self):
        self.assertEqual(last(blank(7, 7), part(1, 1, 4, 5), OPEN), [1, 20])
        self.assertEqual(last(blank(12, 2), part(1, 0, 11, 2), OPEN), [1, 22])
        self.assertEqual(last(blank(12, 1), part(0, 0, 11, 1), OPEN), [1, 11])
        self.assertEqual(last(blank(1, 12), part(0, 1, 1, 11), OPEN), [1, 11])

    def test_all_of_the_picture(self):
        for w, h in [(1, 1), (2, 1), (1, 2), (3, 3), (12, 1), (1, 12)] + WHOLE_OF_24:
            self.assertEqual(last(blank(w, h), part(0, 0, w, h), OPEN), [0, w * h], (w, h))

    def test_all_of_the_picture_but_one(self):
        for w, h in [(2, 1), (1, 2), (3, 3), (4, 6), (5, 5)]:
            for left in range(w * h):
                adds = [add(place % w, place // w) for place in range(w * h) if place != left]
                self.assertEqual(last(blank(w, h), *adds, OPEN), [1, w * h - 1], (w, h, left))

    def test_closed_by_its_last_pixel(self):
        calls = [blank(2, 1), add(0, 0), OPEN, add(1, 0), OPEN, NONE, OPEN]
        self.assertEqual(told(*calls), [[0], [1], [1, 1], [2], [0, 2], [0], [1, 0]])

    def test_colours_make_no_difference(self):
        self.assertEqual(last(begin(2, 1, [255, 0]), other([0, 255]), part(0, 0, 2, 1), OPEN), [0, 2])
        self.assertEqual(last(begin(2, 1, [255, 0]), other([0, 255]), part(0, 0, 1, 1), OPEN), [1, 1])


class Value(unittest.TestCase):
    def test_of_a_known_pixel(self):
        calls = [begin(3, 2, [10, 20, 30, 40, 50, 255]), other([1, 2, 3, 4, 5, 6])]
        for place, colour in enumerate([10, 20, 30, 40, 50, 255]):
            self.assertEqual(last(*calls, value(place % 3, place // 3)), [0, colour, 1])
        self.assertEqual(last(*calls, add(1, 0), value(2, 1)), [0, 255, 1])

    def test_of_a_known_pixel_beside_the_part(self):
        self.assertEqual(
            answers([1, 3, 1, 3, 10, 0, 21, 5, 1, 0, 8, 1, 0, 8, 2, 0]),
            [1, 0, 1, 1, 3, 0, 31, 2, 3, 0, 21, 1],
        )

    def test_the_mean_of_the_neighbours(self):
        nine = begin(3, 3, [1, 2, 4, 8, 16, 32, 64, 128, 255])
        means = {
            (0, 0): [5, 1], (1, 0): [7, 1], (2, 0): [17, 1],
            (0, 1): [27, 1], (1, 1): [85, 2], (2, 1): [275, 3],
            (0, 2): [68, 1], (1, 2): [335, 3], (2, 2): [80, 1],
        }
        for (x, y), expected in means.items():
            self.assertEqual(last(nine, add(x, y), value(x, y)), [0] + expected, (x, y))

    def test_the_pixels_own_colour_makes_no_difference(self):
        for colour in [0, 7, 255]:
            self.assertEqual(last(begin(3, 1, [10, colour, 21]), add(1, 0), value(1, 0)), [0, 31, 2])

    def test_whole(self):
        calls = [begin(4, 1, [0, 9, 9, 3]), part(1, 0, 2, 1), value(1, 0), value(2, 0)]
        self.assertEqual(told(*calls)[2:], [[0, 1, 1], [0, 2, 1]])

    def test_zero(self):
        self.assertEqual(last(begin(3, 1, [0, 9, 0]), add(1, 0), value(1, 0)), [0, 0, 1])
        self.assertEqual(last(begin(3, 1, [3, 9, 4]), other([7, 0, 0]), add(1, 0), value(1, 0)), [0, 0, 1])

    def test_below_0(self):
        self.assertEqual(last(begin(2, 1, [0, 0]), other([0, 5]), add(0, 0), value(0, 0)), [0, -5, 1])
        self.assertEqual(last(begin(3, 1, [0, 0, 0]), other([3, 0, 0]), add(1, 0), value(1, 0)), [0, -3, 2])
        self.assertEqual(last(begin(3, 1, [0, 0, 0]), other([4, 0, 0]), add(1, 0), value(1, 0)), [0, -2, 1])
        self.assertEqual(last(begin(2, 1, [0, 0]), other([0, 255]), add(0, 0), value(0, 0)), [0, -255, 1])

    def test_above_255(self):
        self.assertEqual(last(begin(2, 1, [255, 0]), other([0, 10]), add(1, 0), value(1, 0)), [0, 265, 1])
        self.assertEqual(last(begin(2, 1, [255, 0]), other([0, 255]), add(1, 0), value(1, 0)), [0, 510, 1])
        self.assertEqual(last(begin(3, 1, [255, 0, 255]), other([0, 1, 1]), add(1, 0), value(1, 0)), [0, 511, 2])

    def test_lowest_terms(self):
        cross = [0, 1, 0, 3, 0, 6, 0, 0, 0]
        self.assertEqual(last(begin(3, 3, cross), add(1, 1), value(1, 1)), [0, 5, 2])
        self.assertEqual(last(begin(3, 3, [2 * c for c in cross]), add(1, 1), value(1, 1)), [0, 5, 1])
        self.assertEqual(last(begin(3, 3, [c // 3 for c in cross]), add(1, 1), value(1, 1)), [0, 3, 4])
        calls = [begin(4, 1, [0, 9, 9, 1]), part(1, 0, 2, 1)]
        self.assertEqual(last(*calls, value(1, 0)), [0, 1, 3])
        self.assertEqual(last(*calls, value(2, 0)), [0, 2, 3])

    def test_set_in_from_the_other_picture(self):
        calls = [begin(5, 1, [100, 0, 0, 0, 104]), other([10, 20, 5, 20, 10]), part(1, 0, 3, 1)]
        found = [last(*calls, value(x, 0)) for x in range(5)]
        self.assertEqual(found, [[0, 100, 1], [0, 111, 1], [0, 97, 1], [0, 113, 1], [0, 104, 1]])

    def test_the_others_colours_of_known_neighbours_count(self):
        self.assertEqual(last(begin(2, 1, [50, 0]), other([7, 0]), add(1, 0), value(1, 0)), [0, 43, 1])

    def test_two_pieces(self):
        calls = [begin(5, 1, [10, 0, 20, 0, 41]), add(3, 0), add(1, 0)]
        self.assertEqual(last(*calls, value(1, 0)), [0, 15, 1])
        self.assertEqual(last(*calls, value(3, 0)), [0, 61, 2])

    def test_in_whatever_order_the_part_came(self):
        places = [(1, 0), (2, 0), (0, 1), (1, 1)]
        picture = [begin(4, 2, [9, 8, 7, 6, 5, 4, 3, 2]), other([0, 3, 9, 1, 4, 4, 8, 250])]
        forth = told(*picture, *[add(x, y) for x, y in places], *[value(x, y) for x, y in places])
        back = told(*picture, *[add(x, y) for x, y in reversed(places)], *[value(x, y) for x, y in places])
        self.assertEqual(forth[-4:], back[-4:])
        self.assertEqual(len({tuple(numbers) for numbers in forth[-4:]}), 4)

    def test_outside(self):
        for before in [[], [part(0, 0, 2, 2)], [part(0, 0, 3, 2)]]:
            for x, y in [(3, 0), (0, 2), (3, 2), (4, 0), (MOST, 0), (0, MOST), (MOST, MOST), (MOST, 1), (2, MOST)]:
                self.assertEqual(last(begin(3, 2, [1, 2, 3, 4, 5, 6]), *before, value(x, y)), [-1], (x, y))

    def test_x_is_told_first(self):
        calls = [begin(3, 2, [1, 2, 3, 4, 5, 6]), value(2, 1), value(1, 2), value(0, 1), value(1, 0)]
        self.assertEqual(told(*calls)[1:], [[0, 6, 1], [-1], [0, 4, 1], [0, 2, 1]])

    def test_it_can_not_be(self):
        for w, h in [(2, 1), (1, 2), (3, 3)] + WHOLE_OF_24:
            calls = [blank(w, h), part(0, 0, w, h)]
            values = [value(place % w, place // w) for place in range(w * h)]
            self.assertEqual(told(*calls, *values)[2:], [[-4]] * (w * h), (w, h))

    def test_a_known_pixels_value_once_the_part_is_closed_no_more(self):
        calls = [begin(2, 1, [5, 9]), part(0, 0, 2, 1), value(1, 0), NONE, value(1, 0), add(0, 0), value(1, 0)]
        self.assertEqual(told(*calls)[2:], [[-4], [0], [0, 9, 1], [1], [0, 9, 1]])


class Sums(unittest.TestCase):
    def test_no_part(self):
        self.assertEqual(last(begin(2, 1, [5, 6]), SUMS), [0, 0, 1])
        self.assertEqual(last(begin(2, 1, [5, 6]), add(0, 0), NONE, SUMS), [0, 0, 1])

    def test_one(self):
        self.assertEqual(last(begin(3, 1, [10, 0, 21]), add(1, 0), SUMS), [1, 31, 2])
        self.assertEqual(last(begin(3, 1, [10, 0, 20]), add(1, 0), SUMS), [1, 15, 1])

    def test_some(self):
        self.assertEqual(last(begin(4, 1, [0, 9, 9, 1]), part(1, 0, 2, 1), SUMS), [2, 1, 1])
        self.assertEqual(last(begin(5, 1, [0, 9, 9, 9, 1]), part(1, 0, 3, 1), SUMS), [3, 3, 2])

    def test_pieces_that_do_not_touch(self):
        calls = [begin(5, 1, [10, 0, 20, 0, 41]), add(1, 0), add(3, 0), SUMS]
        self.assertEqual(last(*calls), [2, 91, 2])
        calls = [begin(5, 1, [10, 0, 21, 0, 40]), add(1, 0), add(3, 0), SUMS]
        self.assertEqual(last(*calls), [2, 46, 1])
        corners = [begin(3, 3, [0, 1, 0, 2, 9, 4, 0, 8, 0]), add(0, 0), add(2, 0), add(0, 2), add(2, 2), SUMS]
        self.assertEqual(last(*corners), [4, 15, 1])

    def test_zero_and_below(self):
        self.assertEqual(last(blank(3, 3), part(0, 0, 2, 2), SUMS), [4, 0, 1])
        self.assertEqual(last(blank(2, 1), other([0, 5]), add(0, 0), SUMS), [1, -5, 1])
        self.assertEqual(last(blank(3, 1), other([3, 0, 0]), add(1, 0), SUMS), [1, -3, 2])
        apart = [begin(5, 1, [3, 0, 0, 0, 0]), other([3, 0, 0, 0, 5]), add(0, 0), add(4, 0), SUMS]
        self.assertEqual(last(*apart), [2, 8, 1])
        self.assertEqual(last(blank(5, 1), other([3, 0, 0, 3, 0]), add(0, 0), add(4, 0), SUMS), [2, 0, 1])

    def test_24_pixels(self):
        flat = [begin(12, 12, [7] * 144), part(3, 4, 4, 6), SUMS]
        self.assertEqual(last(*flat), [24, 168, 1])
        slope = [begin(12, 12, [place % 12 for place in range(144)]), part(3, 4, 4, 6), SUMS]
        self.assertEqual(last(*slope), [24, 6 * (3 + 4 + 5 + 6), 1])

    def test_it_is_the_values_sum(self):
        colours = [(place * place * 5 + place * 31) % 256 for place in range(144)]
        calls = [begin(12, 12, colours), other(list(reversed(colours))), part(9, 0, 3, 8)]
        each = told(*calls, SUMS, *[value(9 + place % 3, place // 3) for place in range(24)])
        self.assertEqual(each[2], [24])
        self.assertEqual(each[3][0], 24)
        self.assertEqual(fraction(each[3][1:]), sum(fraction(numbers[1:]) for numbers in each[4:]))

    def test_it_can_not_be(self):
        for w, h in [(1, 1), (2, 1), (1, 2), (3, 3)] + WHOLE_OF_24:
            self.assertEqual(last(blank(w, h), part(0, 0, w, h), SUMS), [-4], (w, h))
        self.assertEqual(last(begin(2, 1, [3, 4]), other([5, 9]), add(0, 0), add(1, 0), SUMS), [-4])


class Fill(unittest.TestCase):
    def row_filled(self, colours, *calls):
        """The colours of a picture one high after a fill."""
        each = told(begin(len(colours), 1, colours), *calls, FILL, row(0))
        self.assertEqual(each[-1][0], len(colours))
        return each[-1][1:]

    def test_to_the_nearest(self):
        self.assertEqual(self.row_filled([0, 9, 9, 1], part(1, 0, 2, 1)), [0, 0, 1, 1])
        self.assertEqual(self.row_filled([0, 9, 9, 2], part(1, 0, 2, 1)), [0, 1, 1, 2])
        self.assertEqual(self.row_filled([0, 9, 9, 3], part(1, 0, 2, 1)), [0, 1, 2, 3])
        self.assertEqual(self.row_filled([0, 9, 9, 9, 1], part(1, 0, 3, 1)), [0, 0, 1, 1, 1])

    def test_a_half_up(self):
        self.assertEqual(self.row_filled([0, 9, 1], add(1, 0)), [0, 1, 1])
        self.assertEqual(self.row_filled([1, 9, 2], add(1, 0)), [1, 2, 2])
        self.assertEqual(self.row_filled([2, 9, 3], add(1, 0)), [2, 3, 3])
        self.assertEqual(self.row_filled([0, 9, 255], add(1, 0)), [0, 128, 255])
        self.assertEqual(self.row_filled([254, 9, 255], add(1, 0)), [254, 255, 255])

    def test_below_0(self):
        self.assertEqual(self.row_filled([0, 9], other([1, 0]), add(1, 0)), [0, 0])
        self.assertEqual(self.row_filled([0, 9], other([255, 0]), add(1, 0)), [0, 0])
        self.assertEqual(self.row_filled([0, 9, 0], other([1, 0, 0]), add(1, 0)), [0, 0, 0])
        self.assertEqual(self.row_filled([0, 9, 0], other([3, 0, 0]), add(1, 0)), [0, 0, 0])

    def test_above_255(self):
        self.assertEqual(self.row_filled([255, 9], other([0, 1]), add(1, 0)), [255, 255])
        self.assertEqual(self.row_filled([255, 9], other([0, 255]), add(1, 0)), [255, 255])
        self.assertEqual(self.row_filled([255, 9, 255], other([0, 1, 1]), add(1, 0)), [255, 255, 255])
        self.assertEqual(self.row_filled([255, 9], other([1, 0]), add(1, 0)), [255, 254])

    def test_just_0_and_255(self):
        self.assertEqual(self.row_filled([1, 9], other([1, 0]), add(1, 0)), [1, 0])
        self.assertEqual(self.row_filled([254, 9], other([0, 1]), add(1, 0)), [254, 255])

    def test_values_are_not_rounded_one_behind_another(self):
        self.assertEqual(self.row_filled([0, 9, 9, 9, 9, 9, 2], part(1, 0, 5, 1)), [0, 0, 1, 1, 1, 2, 2])

    def test_what_is_answered(self):
        self.assertEqual(last(begin(3, 1, [1, 2, 3]), FILL), [0])
        self.assertEqual(last(begin(3, 1, [1, 2, 3]), add(1, 0), FILL), [1])
        self.assertEqual(last(blank(12, 12), part(0, 0, 2, 12), FILL), [24])

    def test_no_part_afterwards(self):
        calls = [begin(3, 1, [1, 9, 3]), part(0, 0, 2, 1), FILL, FILL, OPEN, SUMS, value(1, 0), add(0, 0)]
        self.assertEqual(told(*calls)[1:], [[2], [2], [0], [1, 0], [0, 0, 1], [0, 3, 1], [1]])

    def test_without_a_part_nothing_changes(self):
        before = [begin(3, 1, [1, 9, 3]), other([4, 5, 6])]
        self.assertEqual(state_after(*before, FILL), state_after(*before))

    def test_the_other_picture_stays(self):
        calls = [begin(3, 1, [10, 0, 20]), other([0, 6, 0]), add(1, 0), FILL]
        self.assertEqual(state_after(*calls), (3, 1, [10, 21, 20], [0, 6, 0], []))
        self.assertEqual(last(*calls, add(1, 0), value(1, 0)), [0, 21, 1])

    def test_filled_colours_are_known(self):
        calls = [begin(3, 1, [10, 0, 21]), add(1, 0), FILL, value(1, 0), add(2, 0), value(2, 0)]
        self.assertEqual(told(*calls)[3:], [[0, 16, 1], [1], [0, 16, 1]])

    def test_it_can_not_be(self):
        for w, h in [(1, 1), (2, 1), (1, 2), (3, 3)] + WHOLE_OF_24:
            before = [begin(w, h, list(range(w * h))), other(list(range(100, 100 + w * h))), part(0, 0, w, h)]
            self.assertEqual(last(*before, FILL), [-4], (w, h))
            self.assertEqual(state_after(*before, FILL), state_after(*before), (w, h))

    def test_24_pixels(self):
        calls = [begin(12, 2, list(range(100, 124))), part(0, 0, 11, 2), add(11, 1), FILL, row(0), row(1)]
        self.assertEqual(told(*calls)[2:], [[23], [23], [12] + [111] * 12, [12] + [111] * 12])
        calls = [begin(5, 5, [8] * 24 + [77])] + [part(0, 0, 5, 4), part(0, 0, 4, 5)]
        calls += [add(4, y) for y in range(4)] + [FILL] + [row(y) for y in range(5)]
        self.assertEqual(told(*calls)[-6:], [[24]] + [[5] + [77] * 5] * 5)


class Row(unittest.TestCase):
    def test_every_row(self):
        picture = begin(3, 2, [1, 2, 3, 4, 5, 255])
        self.assertEqual(told(picture, row(0), row(1)), [[0], [3, 1, 2, 3], [3, 4, 5, 255]])
        self.assertEqual(last(begin(1, 3, [7, 8, 9]), row(2)), [1, 9])
        picture = begin(12, 12, list(range(144)))
        self.assertEqual(last(picture, row(11)), [12] + list(range(132, 144)))

    def test_outside(self):
        for y in [2, 3, 5, MOST]:
            self.assertEqual(last(begin(3, 2, [1] * 6), row(y)), [-1])
        self.assertEqual(last(blank(12, 12), row(12)), [-1])
        self.assertEqual(last(blank(12, 1), row(1)), [-1])

    def test_colours_not_values(self):
        calls = [begin(3, 1, [10, 0, 21]), other([7, 8, 9]), add(1, 0), value(1, 0), row(0)]
        self.assertEqual(last(*calls), [3, 10, 0, 21])

    def test_where_it_can_not_be(self):
        self.assertEqual(last(begin(2, 1, [3, 4]), part(0, 0, 2, 1), row(0)), [2, 3, 4])

    def test_what_is_answered_is_not_the_picture(self):
        calls = [begin(2, 1, [3, 4]), row(0), row(0)]
        self.assertEqual(told(*calls)[1:], [[2, 3, 4], [2, 3, 4]])


class CallsBetween(unittest.TestCase):
    PICTURE = begin(3, 1, [10, 0, 21])

    def test_begin(self):
        calls = [self.PICTURE, other([0, 9, 0]), add(1, 0), value(1, 0)]
        calls += [begin(3, 1, [10, 0, 22]), value(1, 0), OPEN, SUMS, add(1, 0), value(1, 0)]
        self.assertEqual(told(*calls)[3:], [[0, 49, 2], [0], [0, 0, 1], [1, 0], [0, 0, 1], [1], [0, 16, 1]])

    def test_other_and_flat(self):
        calls = [self.PICTURE, add(1, 0), other([0, 9, 0]), value(1, 0), other([0, 0, 9]), value(1, 0), SUMS]
        calls += [FLAT, value(1, 0), SUMS, other([2, 2]), value(1, 0)]
        self.assertEqual(
            told(*calls)[3:],
            [[0, 49, 2], [0], [0, 11, 1], [1, 11, 1], [0], [0, 31, 2], [1, 31, 2], [-3], [0, 31, 2]],
        )

    def test_part_and_add_and_none(self):
        calls = [self.PICTURE, add(1, 0), value(1, 0), add(2, 0), value(1, 0), value(2, 0), SUMS]
        calls += [part(0, 0, 1, 1), value(1, 0), value(0, 0), NONE, value(0, 0), value(2, 0), SUMS]
        self.assertEqual(
            told(*calls)[1:],
            [[1], [0, 31, 2], [2], [0, 10, 1], [0, 10, 1], [2, 20, 1],
             [1], [0, 0, 1], [0, 0, 1], [0], [0, 10, 1], [0, 21, 1], [0, 0, 1]],
        )

    def test_asking_leaves_all_as_it_was(self):
        for places in [[], [(1, 0)], [(0, 0), (2, 0)], [(0, 0), (1, 0), (2, 0)]]:
            before = [self.PICTURE, other([3, 200, 5])] + [add(x, y) for x, y in places]
            for call in [OPEN, value(0, 0), value(1, 0), SUMS, row(0)]:
                self.assertEqual(state_after(*before, call), state_after(*before), (places, call))
                self.assertEqual(told(*before, call, call)[-2], told(*before, call, call)[-1], (places, call))


class RefusalsLeaveAllAsItWas(unittest.TestCase):
    def assert_refused(self, before, call, refusal):
        self.assertEqual(last(*before, call), [refusal], call)
        self.assertEqual(state_after(*before, call), state_after(*before), call)

    def test_of_an_open_part(self):
        before = [begin(6, 5, list(range(30))), other(list(range(100, 130))), part(0, 0, 6, 4)]
        for call in [value(6, 0), value(0, 5), value(MOST, MOST), row(5), row(MOST)]:
            self.assert_refused(before, call, -1)

    def test_of_a_closed_part(self):
        before = [begin(6, 4, list(range(24))), other(list(range(100, 124))), part(0, 0, 6, 4)]
        for call in [value(6, 0), value(0, 4), value(MOST, 0), row(4), row(MOST)]:
            self.assert_refused(before, call, -1)
        for call in [value(0, 0), value(5, 3), SUMS, FILL]:
            self.assert_refused(before, call, -4)

    def test_what_is_asked_afterwards(self):
        calls = [begin(2, 1, [3, 4]), other([0, 9]), part(0, 0, 2, 1), FILL, SUMS, value(0, 0), value(2, 0), row(1)]
        calls += [OPEN, row(0), part(1, 0, 1, 1), value(1, 0)]
        self.assertEqual(told(*calls)[3:], [[-4], [-4], [-4], [-1], [-1], [0, 2], [2, 3, 4], [1], [0, 12, 1]])


class WhatIsHandedIn(unittest.TestCase):
    class Watched(list):
        """A list that tells of every change, of those too that are taken back."""

        def refuse(self, *arguments, **keywords):
            raise RuntimeError("the list that was handed in is changed")

        __setitem__ = __delitem__ = __iadd__ = __imul__ = refuse
        append = clear = extend = insert = pop = remove = reverse = sort = refuse

        def __getitem__(self, key):
            found = list.__getitem__(self, key)
            return type(self)(found) if isinstance(key, slice) else found

    CALLS = joined([
        begin(3, 1, [10, 0, 21]), other([0, 9, 0]), part(1, 0, 1, 1), OPEN, value(1, 0), SUMS, FILL, row(0), row(1),
        part(0, 0, 3, 1), OPEN, value(0, 0), SUMS, FILL, value(3, 0),
    ])
    TOLD = [
        1, 0, 1, 0, 1, 1, 2, 1, 1, 3, 0, 49, 2, 3, 1, 49, 2, 1, 1, 4, 3, 10, 25, 21, 1, -1,
        1, 3, 2, 0, 3, 1, -4, 1, -4, 1, -4, 1, -1,
    ]

    def test_is_the_same_afterwards(self):
        calls = list(self.CALLS)
        self.assertEqual(answers(calls), self.TOLD)
        self.assertEqual(calls, self.CALLS)

    def test_is_not_changed_for_a_while_either(self):
        self.assertEqual(answers(self.Watched(self.CALLS)), self.TOLD)

    def test_asked_twice(self):
        calls = list(self.CALLS)
        self.assertEqual(answers(calls), answers(calls))

    def test_nothing_is_kept(self):
        answers(self.CALLS)
        self.assertEqual(answers([7, 9, 10, 11, 0]), [2, 1, 0, 3, 0, 0, 1, 1, 0, 2, 1, 0])


class LongLines(unittest.TestCase):
    COLOURS = [(place * place * 37 + place * 11) % 256 for place in range(144)]
    OTHER = [(place * place * 13 + place * 101) % 256 for place in range(144)]

    def timed(self, *calls):
        start = time.perf_counter()
        each = told(*calls)
        self.assertLess(time.perf_counter() - start, 20)
        return each

    def test_58_values_of_24_pixels(self):
        values = [value(4 + place % 4, 3 + place // 4 % 6) for place in range(58)]
        each = self.timed(begin(12, 12, self.COLOURS), part(4, 3, 4, 6), *values)
        self.assertEqual([len(numbers) for numbers in each], [1, 1] + [3] * 58)
        self.assertEqual(each[2:26], each[26:50])

    def test_58_sums_of_24_pixels_apart(self):
        picture = begin(12, 12, self.COLOURS)
        adds = [add(place * 2 % 12, place // 6 * 3) for place in range(24)]
        each = self.timed(picture, *adds, *[SUMS] * 35)
        self.assertEqual(each[25:], [each[25]] * 35)
        self.assertEqual(each[25][0], 24)

    def test_29_fills_of_24_pixels(self):
        fills = [call for count in range(29) for call in (part(count % 9, count % 7, 4, 6), FILL)]
        each = self.timed(begin(12, 12, self.COLOURS), other(self.OTHER), *fills)
        self.assertEqual(each, [[0], [0]] + [[24]] * 58)

    def test_values_sums_and_fills_of_a_closed_part(self):
        asked = [call for count in range(19) for call in (value(count % 6, count % 4), SUMS, FILL)]
        each = self.timed(begin(6, 4, self.COLOURS[:24]), part(0, 0, 6, 4), *asked, OPEN)
        self.assertEqual(each, [[0], [24]] + [[-4]] * 57 + [[0, 24]])

    def test_60_calls_of_all_kinds(self):
        calls = []
        for count in range(5):
            calls += [begin(4, 3, self.COLOURS[count:count + 12]), other(self.OTHER[count:count + 12]), FLAT]
            calls += [part(1, 0, 2, 2), add(0, 2), OPEN, value(1, 1), SUMS, FILL, row(1), NONE, row(3)]
        each = self.timed(*calls)
        self.assertEqual(len(each), 60)
        lengths = [1, 1, 1, 1, 1, 2, 3, 3, 1, 5, 1, 1]
        self.assertEqual([len(numbers) for numbers in each], lengths * 5)

    def test_60_calls_of_one_number(self):
        self.assertEqual(single_answers(*[FILL] * 60), [0] * 60)


if __name__ == "__main__":
    unittest.main()
