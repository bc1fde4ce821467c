"""How the tests write calls and read answers."""

from fractions import Fraction

from smoothmend.picture import Picture, answer_call, answers, split_calls

MOST = 2 ** 64 - 1

FLAT = [3]
NONE = [6]
OPEN = [7]
SUMS = [9]
FILL = [10]


def begin(w, h, colours):
    return [1, w, h, len(colours)] + colours


def blank(w, h):
    return begin(w, h, [0] * (w * h))


def other(colours):
    return [2, len(colours)] + colours


def part(x, y, w, h):
    return [4, x, y, w, h]


def add(x, y):
    return [5, x, y]


def value(x, y):
    return [8, x, y]


def row(y):
    return [11, y]


def joined(calls):
    assert 1 <= len(calls) <= 60, len(calls)
    return [number for call in calls for number in call]


def told(*calls):
    """What is answered: a list of numbers for each call."""
    numbers = answers(joined(calls))
    each = []
    while numbers:
        each.append(numbers[1:1 + numbers[0]])
        assert len(each[-1]) == numbers[0] > 0, numbers
        numbers = numbers[1 + numbers[0]:]
    assert len(each) == len(calls), each
    return each


def last(*calls):
    return told(*calls)[-1]


def single_answers(*calls):
    """Of calls that answer one number each: these, one for each call."""
    each = told(*calls)
    assert [len(numbers) for numbers in each] == [1] * len(calls), each
    return [numbers[0] for numbers in each]


def fraction(numbers):
    upper, lower = numbers
    found = Fraction(upper, lower)
    assert (found.numerator, found.denominator) == (upper, lower), numbers
    return found


def picture_after(*calls):
    picture = Picture()
    if calls:
        for number, numbers, colours in split_calls(joined(calls)):
            answer_call(picture, number, numbers, colours)
    return picture


def state(picture):
    return (picture.wide, picture.high, list(picture.colours), list(picture.other), sorted(picture.part))


def state_after(*calls):
    return state(picture_after(*calls))
