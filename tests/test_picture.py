"""The calls begin, other, flat, part, add and none, asked through smoothmend.picture.answers."""

import unittest

from calls import (
    FLAT, MOST, NONE, add, begin, blank, other, part, picture_after, single_answers, state, state_after,
)
from smoothmend.picture import Picture, answers


class FormOfAnswers(unittest.TestCase):
    def test_one_call(self):
        self.assertEqual(answers([3]), [1, 0])
        self.assertEqual(answers([4, 0, 0, 1, 1]), [1, 1])
        self.assertEqual(answers([6]), [1, 0])
        self.assertEqual(answers([1, 1, 1, 1, 7]), [1, 0])

    def test_calls_one_behind_another(self):
        self.assertEqual(answers([6, 6]), [1, 0, 1, 0])
        self.assertEqual(answers([1, 2, 1, 2, 3, 4, 5, 1, 0, 2, 2, 9, 8, 3]), [1, 0, 1, 1, 1, 0, 1, 0])

    def test_a_refusal_is_its_number_alone(self):
        self.assertEqual(answers([1, 0, 1, 0]), [1, -1])
        self.assertEqual(answers([2, 0]), [1, -3])
        self.assertEqual(answers(blank(12, 12) + part(0, 0, 12, 12)), [1, 0, 1, -5])

    def test_calls_go_on_behind_a_refused_row(self):
        self.assertEqual(answers([2, 3, 6, 6, 6, 5, 0, 0]), [1, -3, 1, 1])
        self.assertEqual(answers([1, 0, 0, 3, 5, 5, 5, 5, 0, 0]), [1, -1, 1, 1])

    def test_a_list_of_whole_numbers(self):
        told = answers(blank(2, 2) + other([1] * 4) + FLAT + part(0, 0, 1, 1) + add(1, 1) + add(1, 1) + NONE + [2, 0])
        self.assertIs(type(told), list)
        for number in told:
            self.assertIs(type(number), int)


class AtTheBeginning(unittest.TestCase):
    def test_one_pixel(self):
        self.assertEqual(answers([5, 0, 0]), [1, 1])
        self.assertEqual(answers([5, 1, 0]), [1, -1])
        self.assertEqual(answers([5, 0, 1]), [1, -1])
        self.assertEqual(answers([2, 1, 255]), [1, 0])
        self.assertEqual(single_answers(part(0, 0, 5, 5)), [1])

    def test_colour_0_and_no_part(self):
        self.assertEqual(state(Picture()), (1, 1, [0], [0], []))


class Begin(unittest.TestCase):
    def test_sides_1_and_12(self):
        for w, h in [(1, 1), (12, 1), (1, 12), (12, 12), (3, 2)]:
            self.assertEqual(single_answers(blank(w, h)), [0])

    def test_every_side_that_is_taken(self):
        for w in range(15):
            for h in range(15):
                expected = 0 if 1 <= w <= 12 and 1 <= h <= 12 else -1
                self.assertEqual(single_answers(blank(w, h)), [expected], (w, h))

    def test_sides_that_are_refused(self):
        for side in [0, 13, MOST]:
            self.assertEqual(single_answers(begin(side, 1, [0])), [-1])
            self.assertEqual(single_answers(begin(1, side, [0])), [-1])
            self.assertEqual(single_answers(begin(side, side, [])), [-1])
        self.assertEqual(single_answers(begin(13, 1, [0] * 13)), [-1])
        self.assertEqual(single_answers(begin(24, 6, [0] * 144)), [-1])

    def test_number_of_colours(self):
        self.assertEqual(single_answers(begin(3, 2, [1] * 5)), [-3])
        self.assertEqual(single_answers(begin(3, 2, [1] * 7)), [-3])
        self.assertEqual(single_answers(begin(3, 2, [])), [-3])
        self.assertEqual(single_answers(begin(12, 12, [0] * 1024)), [-3])
        self.assertEqual(single_answers(begin(1, 1, [])), [-3])

    def test_colours(self):
        self.assertEqual(single_answers(begin(2, 1, [0, 255])), [0])
        for colour in [256, MOST]:
            self.assertEqual(single_answers(begin(2, 1, [colour, 0])), [-3])
            self.assertEqual(single_answers(begin(2, 1, [0, colour])), [-3])
            self.assertEqual(single_answers(begin(3, 1, [0, colour, 0])), [-3])

    def test_a_wrong_side_is_told_before_wrong_colours(self):
        self.assertEqual(single_answers(begin(0, 1, [256])), [-1])
        self.assertEqual(single_answers(begin(1, 13, [])), [-1])
        self.assertEqual(single_answers(begin(MOST, MOST, [MOST] * 1024)), [-1])

    def test_colours_in_order(self):
        self.assertEqual(state_after(begin(3, 2, [1, 2, 3, 4, 5, 6])), (3, 2, [1, 2, 3, 4, 5, 6], [0] * 6, []))

    def test_width_is_told_first(self):
        self.assertEqual(single_answers(blank(3, 2), add(2, 1), add(1, 2), add(3, 0)), [0, 1, -1, -1])

    def test_again(self):
        calls = [begin(3, 2, [1] * 6), other([9] * 6), part(0, 0, 3, 2), begin(2, 2, [5, 6, 7, 8])]
        self.assertEqual(single_answers(*calls), [0, 0, 6, 0])
        self.assertEqual(state_after(*calls), (2, 2, [5, 6, 7, 8], [0] * 4, []))
        self.assertEqual(single_answers(*calls, add(0, 0), add(2, 0), other([1] * 6)), [0, 0, 6, 0, 1, -1, -3])

    def test_again_with_the_same_picture(self):
        calls = [begin(2, 1, [3, 4]), other([9, 8]), add(1, 0), begin(2, 1, [3, 4])]
        self.assertEqual(state_after(*calls), (2, 1, [3, 4], [0, 0], []))


class Other(unittest.TestCase):
    def test_as_many_as_the_picture_has(self):
        self.assertEqual(single_answers(blank(3, 2), other([0, 255, 1, 2, 3, 4])), [0, 0])
        self.assertEqual(single_answers(blank(12, 12), other([255] * 144)), [0, 0])
        for count in [0, 1, 3, 5, 7, 1024]:
            self.assertEqual(single_answers(blank(3, 2), other([1] * count)), [0, -3])

    def test_colours(self):
        for colour in [256, MOST]:
            self.assertEqual(single_answers(other([colour])), [-3])
            self.assertEqual(single_answers(blank(3, 1), other([0, 0, colour])), [0, -3])

    def test_it_becomes_the_other_picture_alone(self):
        calls = [begin(2, 2, [1, 2, 3, 4]), add(1, 0), other([5, 6, 7, 8])]
        self.assertEqual(state_after(*calls), (2, 2, [1, 2, 3, 4], [5, 6, 7, 8], [1]))
        self.assertEqual(state_after(*calls, other([9, 9, 9, 0])), (2, 2, [1, 2, 3, 4], [9, 9, 9, 0], [1]))


class Flat(unittest.TestCase):
    def test_after_other(self):
        calls = [begin(2, 2, [1, 2, 3, 4]), add(0, 1), other([5, 6, 7, 8]), FLAT]
        self.assertEqual(single_answers(*calls), [0, 1, 0, 0])
        self.assertEqual(state_after(*calls), (2, 2, [1, 2, 3, 4], [0] * 4, [2]))

    def test_other_after_flat(self):
        calls = [blank(2, 1), FLAT, other([7, 8])]
        self.assertEqual(single_answers(*calls), [0, 0, 0])
        self.assertEqual(state_after(*calls), (2, 1, [0, 0], [7, 8], []))


class Part(unittest.TestCase):
    def test_within(self):
        calls = [blank(5, 4), part(1, 2, 3, 2)]
        self.assertEqual(single_answers(*calls), [0, 6])
        self.assertEqual(picture_after(*calls).part, [11, 12, 13, 16, 17, 18])

    def test_over_the_edge(self):
        self.assertEqual(single_answers(blank(5, 4), part(3, 2, 4, 9)), [0, 4])
        self.assertEqual(single_answers(blank(5, 4), part(3, 0, 9, 1)), [0, 2])
        self.assertEqual(single_answers(blank(5, 4), part(0, 3, 1, 9)), [0, 1])
        self.assertEqual(sorted(picture_after(blank(5, 4), part(3, 2, 4, 9)).part), [13, 14, 18, 19])

    def test_wholly_outside(self):
        for x, y in [(5, 0), (0, 4), (5, 4), (MOST, 0), (0, MOST), (MOST, MOST)]:
            for side in [1, 3, MOST]:
                calls = [blank(5, 4), add(0, 0), part(x, y, side, side)]
                self.assertEqual(single_answers(*calls), [0, 1, 0])
                self.assertEqual(picture_after(*calls).part, [])

    def test_no_side(self):
        for w, h in [(0, 2), (2, 0), (0, 0), (0, MOST), (MOST, 0)]:
            calls = [blank(5, 4), add(0, 0), part(1, 1, w, h)]
            self.assertEqual(single_answers(*calls), [0, 1, 0])
            self.assertEqual(picture_after(*calls).part, [])

    def test_greatest_sides(self):
        self.assertEqual(single_answers(blank(6, 4), part(0, 0, MOST, MOST)), [0, 24])
        self.assertEqual(single_answers(blank(12, 12), part(10, 9, MOST, MOST)), [0, 6])
        self.assertEqual(single_answers(blank(12, 12), part(11, 11, MOST, 1)), [0, 1])
        self.assertEqual(single_answers(blank(12, 12), part(0, 0, MOST, MOST)), [0, -5])

    def test_24_and_25(self):
        self.assertEqual(single_answers(blank(12, 12), part(0, 0, 12, 2)), [0, 24])
        self.assertEqual(single_answers(blank(12, 12), part(3, 4, 4, 6)), [0, 24])
        self.assertEqual(single_answers(blank(12, 12), part(3, 4, 5, 5)), [0, -5])
        self.assertEqual(single_answers(blank(5, 5), part(0, 0, 5, 5)), [0, -5])
        self.assertEqual(single_answers(blank(12, 12), part(0, 0, 12, 3)), [0, -5])

    def test_only_what_is_in_the_picture_counts(self):
        self.assertEqual(single_answers(blank(4, 6), part(0, 0, 12, 12)), [0, 24])
        self.assertEqual(single_answers(blank(12, 12), part(7, 7, 9, 9)), [0, -5])
        self.assertEqual(single_answers(blank(12, 12), part(8, 6, 9, 9)), [0, 24])

    def test_every_small_rectangle(self):
        sides = [0, 1, 2, 3, 4, 5, MOST]
        for x in sides:
            for y in sides:
                for w in sides:
                    for h in sides:
                        within = [
                            row * 4 + column for row in range(3) for column in range(4)
                            if x <= column and column - x < w and y <= row and row - y < h
                        ]
                        calls = [blank(4, 3), part(x, y, w, h)]
                        self.assertEqual(single_answers(*calls), [0, len(within)], (x, y, w, h))
                        self.assertEqual(sorted(picture_after(*calls).part), within, (x, y, w, h))

    def test_in_the_place_of_the_part_before(self):
        calls = [blank(4, 3), part(0, 0, 2, 2), part(1, 1, 2, 1)]
        self.assertEqual(single_answers(*calls), [0, 4, 2])
        self.assertEqual(picture_after(*calls).part, [5, 6])
        self.assertEqual(single_answers(*calls, add(0, 0), add(1, 1)), [0, 4, 2, 3, 3])

    def test_24_again_at_24(self):
        self.assertEqual(single_answers(blank(12, 12), part(0, 0, 12, 2), part(0, 2, 12, 2)), [0, 24, 24])


class Add(unittest.TestCase):
    def test_new_pixels(self):
        calls = [blank(3, 2), add(0, 0), add(2, 1), add(1, 0)]
        self.assertEqual(single_answers(*calls), [0, 1, 2, 3])
        self.assertEqual(sorted(picture_after(*calls).part), [0, 1, 5])

    def test_beside_a_rectangle(self):
        self.assertEqual(single_answers(blank(3, 3), part(0, 0, 2, 2), add(2, 2), add(1, 1)), [0, 4, 5, 5])

    def test_of_the_part_already(self):
        self.assertEqual(single_answers(blank(3, 2), add(1, 1), add(1, 1), add(1, 1)), [0, 1, 1, 1])
        self.assertEqual(picture_after(blank(3, 2), add(1, 1), add(1, 1)).part, [4])

    def test_of_the_part_already_at_24(self):
        calls = [blank(12, 12), part(0, 0, 12, 2)]
        self.assertEqual(single_answers(*calls, add(0, 0), add(11, 1), add(0, 2)), [0, 24, 24, 24, -5])

    def test_outside(self):
        for beyond in [3, 4, MOST]:
            self.assertEqual(single_answers(blank(3, 3), add(beyond, 0)), [0, -1])
            self.assertEqual(single_answers(blank(3, 3), add(0, beyond)), [0, -1])
            self.assertEqual(single_answers(blank(3, 3), add(beyond, beyond)), [0, -1])
        self.assertEqual(single_answers(blank(3, 2), add(0, 2), add(2, 1)), [0, -1, 1])
        self.assertEqual(single_answers(blank(2, 3), add(2, 0), add(1, 2)), [0, -1, 1])

    def test_a_25th(self):
        calls = [blank(5, 5)] + [add(place % 5, place // 5) for place in range(25)]
        self.assertEqual(single_answers(*calls), [0] + list(range(1, 25)) + [-5])

    def test_outside_is_told_first(self):
        self.assertEqual(single_answers(blank(12, 12), part(0, 0, 12, 2), add(12, 0), add(0, 12)), [0, 24, -1, -1])


class NoPart(unittest.TestCase):
    def test_add_counts_anew(self):
        calls = [blank(12, 12), part(0, 0, 12, 2), NONE, add(0, 0)]
        self.assertEqual(single_answers(*calls), [0, 24, 0, 1])
        self.assertEqual(picture_after(*calls).part, [0])

    def test_without_a_part(self):
        self.assertEqual(single_answers(NONE, NONE, add(0, 0)), [0, 0, 1])

    def test_the_pictures_stay(self):
        calls = [begin(2, 1, [3, 4]), other([5, 6]), add(0, 0), NONE]
        self.assertEqual(state_after(*calls), (2, 1, [3, 4], [5, 6], []))


class RefusalsLeaveAllAsItWas(unittest.TestCase):
    def assert_refused(self, before, call, refusal):
        self.assertEqual(single_answers(*before, call)[-1], refusal, call)
        self.assertEqual(state_after(*before, call), state_after(*before), call)

    def test_of_a_picture_with_a_full_part(self):
        before = [begin(6, 5, list(range(30))), other(list(range(100, 130))), part(0, 0, 6, 4)]
        refused = [
            (begin(0, 5, list(range(5))), -1),
            (begin(5, 13, [1] * 30), -1),
            (begin(MOST, MOST, []), -1),
            (begin(5, 6, [1] * 29), -3),
            (begin(5, 6, [1] * 31), -3),
            (begin(5, 6, []), -3),
            (begin(5, 6, [1] * 29 + [256]), -3),
            (begin(1, 1, [MOST]), -3),
            (other([1] * 29), -3),
            (other([1] * 31), -3),
            (other([]), -3),
            (other([1] * 29 + [256]), -3),
            (other([MOST] + [1] * 29), -3),
            (part(0, 0, 5, 5), -5),
            (part(0, 0, MOST, MOST), -5),
            (add(6, 0), -1),
            (add(0, 5), -1),
            (add(MOST, MOST), -1),
            (add(0, 4), -5),
        ]
        for call, refusal in refused:
            self.assert_refused(before, call, refusal)

    def test_of_the_picture_at_the_beginning(self):
        for call, refusal in [(begin(2, 2, [1]), -3), (begin(0, 0, []), -1), (other([256]), -3), (add(1, 1), -1)]:
            self.assert_refused([], call, refusal)

    def test_what_is_asked_afterwards(self):
        refused = [begin(13, 1, [0] * 13), begin(1, 1, [256]), other([1]), part(0, 0, 9, 9), add(9, 0)]
        told = single_answers(blank(9, 9), part(0, 0, 2, 2), *refused, add(1, 1), add(8, 8), other([1] * 81))
        self.assertEqual(told, [0, 4, -1, -3, -3, -5, -1, 4, 5, 0])


class WhatIsHandedIn(unittest.TestCase):
    class Watched(list):
        """A list that tells of every change, of those too that are taken back."""

        def refuse(self, *arguments, **keywords):
            raise RuntimeError("the list that was handed in is changed")

        __setitem__ = __delitem__ = __iadd__ = __imul__ = refuse
        append = clear = extend = insert = pop = remove = reverse = sort = refuse

    CALLS = (
        begin(3, 2, [1, 2, 3, 4, 5, 6]) + other([9] * 6) + part(0, 0, 2, 1) + add(2, 1) + add(9, 9)
        + FLAT + NONE + begin(0, 0, [7]) + other([8]) + add(1, 1)
    )
    TOLD = [1, 0, 1, 0, 1, 2, 1, 3, 1, -1, 1, 0, 1, 0, 1, -1, 1, -3, 1, 1]

    def test_is_the_same_afterwards(self):
        calls = list(self.CALLS)
        self.assertEqual(answers(calls), self.TOLD)
        self.assertEqual(calls, self.CALLS)

    def test_is_not_changed_for_a_while_either(self):
        self.assertEqual(answers(self.Watched(self.CALLS)), self.TOLD)

    def test_rows_are_copied(self):
        picture = Picture()
        colours = [1, 2]
        other_colours = [3, 4]
        picture.begin(2, 1, colours)
        picture.take_other(other_colours)
        picture.colours[0] = 9
        picture.other[0] = 9
        self.assertEqual((colours, other_colours), ([1, 2], [3, 4]))

    def test_asked_twice(self):
        calls = list(self.CALLS)
        self.assertEqual(answers(calls), answers(calls))

    def test_nothing_is_kept(self):
        answers(blank(12, 12) + part(0, 0, 12, 2))
        self.assertEqual(answers([5, 0, 0, 5, 1, 0]), [1, 1, 1, -1])
        answers([5, 0, 0])
        self.assertEqual(answers([5, 0, 0]), [1, 1])

    def test_answers_are_a_list_of_their_own(self):
        first = answers([3])
        first.append(5)
        self.assertEqual(answers([3]), [1, 0])


class LongLines(unittest.TestCase):
    def test_60_calls(self):
        calls = [blank(12, 12), other([5] * 144)]
        expected = [0, 0]
        for place in range(24):
            calls.append(add(place % 12, 11 - place // 12))
            expected.append(place + 1)
        calls += [add(5, 5), add(12, 5), FLAT, other([256] * 144), part(0, 0, 5, 5), add(0, 11)]
        expected += [-5, -1, 0, -3, -5, 24]
        calls += [NONE, add(5, 5), begin(2, 2, [1, 2, 3, 4]), add(5, 5)]
        expected += [0, 1, 0, -1]
        for count in range(6):
            calls += [part(1, 0, 1, 2), add(0, 1), add(0, 1), NONE]
            expected += [2, 3, 3, 0]
        self.assertEqual(len(calls), 60)
        self.assertEqual(single_answers(*calls), expected)

    def test_60_pictures_of_144(self):
        calls = [begin(12, 12, [number] * 144) for number in range(60)]
        self.assertEqual(single_answers(*calls), [0] * 60)

    def test_15_lists_of_1024(self):
        calls = [other([0] * 1024) for number in range(15)] + [add(0, 0)]
        self.assertEqual(single_answers(*calls), [-3] * 15 + [1])


if __name__ == "__main__":
    unittest.main()
