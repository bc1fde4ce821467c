"""The promises 1 to 5, for pictures and parts of many kinds, reckoned anew with Python's fractions."""

import unittest
from fractions import Fraction

from calls import FILL, OPEN, SUMS, add, begin, fraction, other, row, told, value


class Varied:
    """Numbers that differ and are the same at each run."""

    def __init__(self, seed):
        self.state = seed * 7919 + 12345

    def below(self, bound):
        self.state = (self.state * 6364136223846793005 + 1442695040888963407) % 2 ** 64
        return (self.state >> 33) % bound

    def colours(self, count, most=255):
        return [self.below(most + 1) for number in range(count)]

    def places(self, count, of):
        left = list(range(of))
        return sorted(left.pop(self.below(len(left))) for number in range(count))


class Case:
    def __init__(self, w, h, colours, other_colours, places):
        self.w, self.h, self.colours, self.other, self.places = w, h, colours, other_colours, places

    def __repr__(self):
        return f"{self.w} x {self.h}, {self.colours}, {self.other}, {self.places}"

    def pixel(self, place):
        return (place % self.w, place // self.w)

    def setting(self):
        adds = [add(*self.pixel(place)) for place in self.places]
        return [begin(self.w, self.h, self.colours), other(self.other)] + adds

    def asked(self, *calls):
        return told(*self.setting(), *calls)[2 + len(self.places):]

    def part_values(self):
        """The value told for each pixel of the part; None if it can't be."""
        if not self.places:
            return {}
        each = self.asked(*[value(*self.pixel(place)) for place in self.places])
        if each == [[-4]] * len(self.places):
            return None
        assert [numbers[0] for numbers in each] == [0] * len(self.places), each
        return {place: fraction(numbers[1:]) for place, numbers in zip(self.places, each)}

    def neighbours(self, place):
        x, y = self.pixel(place)
        beside = [(x, y - 1), (x, y + 1), (x - 1, y), (x + 1, y)]
        return [b * self.w + a for a, b in beside if 0 <= a < self.w and 0 <= b < self.h]

    def known(self):
        return [place for place in range(self.w * self.h) if place not in self.places]

    def is_open(self):
        come_to = set(self.known())
        while True:
            more = {n for place in come_to for n in self.neighbours(place)} - come_to
            if not more:
                return come_to >= set(self.places)
            come_to |= more


def rectangle(w, x, y, wide, high):
    return [b * w + a for b in range(y, y + high) for a in range(x, x + wide)]


# w, h and the part's places.
SHAPES = [
    (2, 1, [0]), (2, 1, [1]), (1, 2, [0]), (1, 2, [1]),
    (12, 1, list(range(1, 11))), (12, 1, list(range(11))), (12, 1, [0, 2, 3, 7, 11]),
    (1, 12, list(range(1, 11))), (1, 12, list(range(1, 12))), (1, 12, [0, 1, 5, 11]),
    (2, 12, rectangle(2, 0, 0, 2, 11) + [23]), (12, 2, list(range(23))), (12, 2, list(range(1, 24))),
    (3, 3, [4]), (3, 3, [0, 2, 6, 8]), (3, 3, [1, 3, 5, 7]), (3, 3, [0, 1, 2, 3, 5, 6, 7, 8]),
    (12, 12, rectangle(12, 0, 0, 4, 6)), (12, 12, rectangle(12, 8, 6, 4, 6)),
    (12, 12, rectangle(12, 6, 0, 6, 4)), (12, 12, rectangle(12, 0, 8, 6, 4)),
    (12, 12, rectangle(12, 4, 3, 4, 6)), (12, 12, rectangle(12, 0, 5, 12, 2)), (12, 12, rectangle(12, 10, 0, 2, 12)),
    (12, 12, [0, 11, 132, 143]), (12, 12, rectangle(12, 1, 1, 3, 3) + rectangle(12, 7, 7, 3, 5)),
    (12, 12, list(range(0, 144, 6))), (12, 12, list(range(60, 84))), (7, 7, rectangle(7, 1, 1, 4, 6)),
    (5, 5, list(range(24))), (5, 5, list(range(1, 25))), (5, 5, [p for p in range(25) if p != 12]),
]


def shaped_cases():
    varied = Varied(1)
    for w, h, places in SHAPES:
        size = w * h
        yield Case(w, h, varied.colours(size), varied.colours(size), places)
        yield Case(w, h, varied.colours(size, 1), [0] * size, places)
        yield Case(w, h, [255] * size, [255 * (place % 2) for place in range(size)], places)


def varied_cases():
    varied = Varied(2)
    for number in range(50):
        w, h = 1 + varied.below(12), 1 + varied.below(12)
        size = w * h
        places = varied.places(varied.below(min(size, 24) + 1), size)
        yield Case(w, h, varied.colours(size), varied.colours(size), places)


def every_part_of_small_pictures():
    varied = Varied(3)
    for w, h in [(1, 1), (2, 1), (1, 2), (4, 1), (1, 4), (2, 2), (3, 2), (2, 3), (3, 3)]:
        size = w * h
        for chosen in range(2 ** size):
            places = [place for place in range(size) if chosen >> place & 1]
            yield Case(w, h, varied.colours(size), varied.colours(size), places)


def all_cases():
    yield from shaped_cases()
    yield from varied_cases()
    yield from every_part_of_small_pictures()


class WhatIsWanted(unittest.TestCase):
    def assert_wanted(self, case, values):
        for place in case.places:
            beside = case.neighbours(place)
            less = sum(values[place] - values.get(n, case.colours[n]) for n in beside)
            self.assertEqual(less, sum(case.other[place] - case.other[n] for n in beside), (place, case))

    def test_promise_1(self):
        mended = 0
        for case in all_cases():
            values = case.part_values()
            if values is not None:
                self.assert_wanted(case, values)
                mended += len(case.places) > 0
        self.assertGreater(mended, 600)

    def test_sums_and_fill_go_by_the_same_values(self):
        for case in all_cases():
            values = case.part_values()
            if values is None:
                self.assertEqual(case.asked(SUMS, FILL), [[-4], [-4]], case)
                continue
            summed, filled, *rows = case.asked(SUMS, FILL, *[row(y) for y in range(case.h)])
            self.assertEqual([summed[0], fraction(summed[1:])], [len(case.places), sum(values.values())], case)
            self.assertEqual(filled, [len(case.places)], case)
            expected = list(case.colours)
            for place, found in values.items():
                expected[place] = min(max((found + Fraction(1, 2)).__floor__(), 0), 255)
            self.assertEqual([colour for numbers in rows for colour in numbers[1:]], expected, case)


class WhenItCanBe(unittest.TestCase):
    WHOLE = [(w, h) for w in range(1, 13) for h in range(1, 13) if w * h <= 24]

    def test_promise_2(self):
        for case in all_cases():
            self.assert_just_if_open(case)

    def test_all_of_the_picture_and_all_but_one(self):
        varied = Varied(4)
        for w, h in self.WHOLE:
            size = w * h
            self.assert_just_if_open(Case(w, h, varied.colours(size), varied.colours(size), list(range(size))))
            left = varied.below(size)
            places = [place for place in range(size) if place != left]
            self.assert_just_if_open(Case(w, h, varied.colours(size), [0] * size, places))

    def test_where_the_equations_could_be_fulfilled_in_very_many_ways(self):
        for w, h in self.WHOLE:
            size = w * h
            case = Case(w, h, [9] * size, [0] * size, list(range(size)))
            self.assertEqual(case.asked(OPEN, SUMS), [[0, size], [-4]], case)

    def assert_just_if_open(self, case):
        opened, summed = case.asked(OPEN, SUMS)
        self.assertEqual(opened, [1 if case.is_open() else 0, len(case.places)], case)
        self.assertEqual(summed == [-4], opened[0] == 0, case)
        self.assertEqual(case.part_values() is None, opened[0] == 0, case)
        self.assertEqual(case.asked(FILL) == [[-4]], opened[0] == 0, case)


class BetweenLeastAndGreatest(unittest.TestCase):
    def test_promise_3(self):
        for case in all_cases():
            if not case.places or not case.known():
                continue
            known = [case.colours[place] for place in case.known()]
            for colour in [0, 1, 255]:
                case.other = [colour] * (case.w * case.h)
                for found in case.part_values().values():
                    self.assertTrue(min(known) <= found <= max(known), (found, case))

    def test_all_known_of_one_colour(self):
        for w, h, places in SHAPES:
            for colour in [0, 3, 255]:
                colours = [99 if place in places else colour for place in range(w * h)]
                case = Case(w, h, colours, [17] * (w * h), places)
                self.assertEqual(set(case.part_values().values()), {colour}, case)


class TheOtherPicture(unittest.TestCase):
    def test_promise_4_the_same_as_the_picture(self):
        for case in all_cases():
            if case.known():
                case.other = list(case.colours)
                expected = {place: case.colours[place] for place in case.places}
                self.assertEqual(case.part_values(), expected, case)

    def test_promise_4_a_number_added(self):
        varied = Varied(5)
        for case in all_cases():
            case.other = varied.colours(case.w * case.h, 200)
            before = case.part_values()
            for more in [1, 55]:
                raised = Case(case.w, case.h, case.colours, [colour + more for colour in case.other], case.places)
                self.assertEqual(raised.part_values(), before, case)


class FillAlone(unittest.TestCase):
    def test_promise_5(self):
        for case in all_cases():
            rows = case.asked(FILL, *[row(y) for y in range(case.h)])[1:]
            colours = [colour for numbers in rows for colour in numbers[1:]]
            self.assertEqual(len(colours), case.w * case.h, case)
            for place in case.known():
                self.assertEqual(colours[place], case.colours[place], case)


if __name__ == "__main__":
    unittest.main()
