"""A picture with a part to be mended, and the calls about it, written as one list of whole numbers."""

MOST_SIDE = 12
MOST_COLOUR = 255
MOST_OF_PART = 24

# The refusals: each is answered alone, and leaves all as it was.
OUT_OF_BOUNDS = -1
WRONG_COLOURS = -3
CAN_NOT_BE = -4
PART_TOO_LARGE = -5

# How many whole numbers stand behind a call's own number, ahead of its row.
NUMBERS_OF_CALL = {1: 2, 2: 0, 3: 0, 4: 4, 5: 2, 6: 0, 7: 0, 8: 2, 9: 0, 10: 0, 11: 1}
CALLS_WITH_ROW = (1, 2)


def is_side(length):
    return 1 <= length <= MOST_SIDE


def colours_fit(colours, pixels):
    return len(colours) == pixels and all([colour <= MOST_COLOUR for colour in colours])


def nearest_colour(upper, lower):
    # A half is added ahead of rounding down, so that a half goes up.
    nearest = (2 * upper + lower) // (2 * lower)
    return min(max(nearest, 0), MOST_COLOUR)


def lowest_terms(upper, lower):
    common = lower
    rest = abs(upper)
    while rest > 0:
        left = common % rest
        common = rest
        rest = left
    return [upper // common, lower // common]


# The division by the pivot before leaves no rest (Bareiss), so all stays whole and no number grows needlessly.
def clear_column(rows, at, pivot_before):
    pivot_row = rows[at]
    pivot = pivot_row[at]
    cleared = []
    for index, row in enumerate(rows):
        if index == at:
            cleared.append(row)
            continue
        factor = row[at]
        cleared.append([(pivot * own - factor * other) // pivot_before for own, other in zip(row, pivot_row)])
    return cleared


# Each row holds one equation: its factors, one for each unknown, then what they come to.
# Gives back the unknowns' upper numbers and the lower one they share; None if there is not just one way.
# The factors are those of a sum of squares (symmetric, never below 0), so a pivot of 0 shows by itself that there
# is not just one way: no rows need be swapped to look for another pivot, and the shared lower number is above 0.
def solve(equations):
    rows = equations
    pivot_before = 1
    for at in range(len(equations)):
        pivot = rows[at][at]
        if pivot == 0:
            return None
        rows = clear_column(rows, at, pivot_before)
        pivot_before = pivot
    return ([row[-1] for row in rows], pivot_before)


# A pixel's place is its number in order, from 0 on, so that the part fits both pictures' lists of colours.
# Each call's method gives back the list of the numbers answered: some calls answer several.
class Picture:
    def __init__(self):
        self.wide = 1
        self.high = 1
        self.colours = [0]
        self.other = [0]
        self.part = []

    def begin(self, w, h, colours):
        if not (is_side(w) and is_side(h)):
            return [OUT_OF_BOUNDS]
        if not colours_fit(colours, w * h):
            return [WRONG_COLOURS]
        self.wide = w
        self.high = h
        self.colours = list(colours)
        self.other = [0] * (w * h)
        self.part = []
        return [0]

    def take_other(self, colours):
        if not colours_fit(colours, len(self.colours)):
            return [WRONG_COLOURS]
        self.other = list(colours)
        return [0]

    def flatten_other(self):
        self.other = [0] * len(self.colours)
        return [0]

    def has_pixel(self, x, y):
        return x < self.wide and y < self.high

    def take_part(self, x, y, w, h):
        # The picture's pixels are walked, not the rectangle's: its sides may be as large as 2 ** 64 - 1.
        places = []
        for place in range(len(self.colours)):
            if x <= place % self.wide < x + w and y <= place // self.wide < y + h:
                places.append(place)
        if len(places) > MOST_OF_PART:
            return [PART_TOO_LARGE]
        self.part = places
        return [len(places)]

    def add_pixel(self, x, y):
        if not self.has_pixel(x, y):
            return [OUT_OF_BOUNDS]
        place = y * self.wide + x
        if place in self.part:
            return [len(self.part)]
        if len(self.part) == MOST_OF_PART:
            return [PART_TOO_LARGE]
        self.part.append(place)
        return [len(self.part)]

    def drop_part(self):
        self.part = []
        return [0]

    def neighbours(self, place):
        x = place % self.wide
        y = place // self.wide
        found = []
        if y > 0:
            found.append(place - self.wide)
        if x > 0:
            found.append(place - 1)
        if x + 1 < self.wide:
            found.append(place + 1)
        if y + 1 < self.high:
            found.append(place + self.wide)
        return found

    # What is wanted at one pixel of the part: the factors of the part's values, in the part's order, then what
    # they come to. What is known goes to the other side.
    def equation(self, place):
        beside = self.neighbours(place)
        factors = [0] * len(self.part)
        factors[self.part.index(place)] = len(beside)
        wanted = 0
        for neighbour in beside:
            wanted += self.other[place] - self.other[neighbour]
            if neighbour in self.part:
                factors[self.part.index(neighbour)] -= 1
            else:
                wanted += self.colours[neighbour]
        return factors + [wanted]

    # The upper numbers of the part's values, in the part's order, and the lower one they share; None if it can't be.
    def mended(self):
        return solve([self.equation(place) for place in self.part])

    def touches_known(self, place):
        return any([neighbour not in self.part for neighbour in self.neighbours(place)])

    def tell_open(self):
        reached = [place for place in self.part if self.touches_known(place)]
        at = 0
        while at < len(reached):
            place = reached[at]
            for neighbour in self.neighbours(place):
                if neighbour in self.part and neighbour not in reached:
                    reached.append(neighbour)
            at += 1
        return [1 if len(reached) == len(self.part) else 0, len(self.part)]

    def tell_value(self, x, y):
        if not self.has_pixel(x, y):
            return [OUT_OF_BOUNDS]
        place = y * self.wide + x
        if place not in self.part:
            return [0, self.colours[place], 1]
        solved = self.mended()
        if solved is None:
            return [CAN_NOT_BE]
        return [0] + lowest_terms(solved[0][self.part.index(place)], solved[1])

    def tell_sum(self):
        solved = self.mended()
        if solved is None:
            return [CAN_NOT_BE]
        return [len(self.part)] + lowest_terms(sum(solved[0]), solved[1])

    def fill_part(self):
        solved = self.mended()
        if solved is None:
            return [CAN_NOT_BE]
        for place, upper in zip(self.part, solved[0]):
            self.colours[place] = nearest_colour(upper, solved[1])
        filled = len(self.part)
        self.part = []
        return [filled]

    def tell_row(self, y):
        if y >= self.high:
            return [OUT_OF_BOUNDS]
        start = y * self.wide
        return [self.wide] + self.colours[start:start + self.wide]


# Each call becomes its own number, its whole numbers and its row, the latter empty where a call has none.
def split_calls(calls):
    parted = []
    at = 0
    while at < len(calls):
        number = calls[at]
        behind = at + 1 + NUMBERS_OF_CALL[number]
        numbers = calls[at + 1:behind]
        row = []
        if number in CALLS_WITH_ROW:
            start = behind + 1
            behind = start + calls[behind]
            row = calls[start:behind]
        parted.append((number, numbers, row))
        at = behind
    return parted


def answer_call(picture, number, numbers, row):
    if number == 1:
        return picture.begin(numbers[0], numbers[1], row)
    if number == 2:
        return picture.take_other(row)
    if number == 3:
        return picture.flatten_other()
    if number == 4:
        return picture.take_part(numbers[0], numbers[1], numbers[2], numbers[3])
    if number == 5:
        return picture.add_pixel(numbers[0], numbers[1])
    if number == 6:
        return picture.drop_part()
    if number == 7:
        return picture.tell_open()
    if number == 8:
        return picture.tell_value(numbers[0], numbers[1])
    if number == 9:
        return picture.tell_sum()
    if number == 10:
        return picture.fill_part()
    return picture.tell_row(numbers[0])


def answers(calls):
    picture = Picture()
    told = []
    for number, numbers, row in split_calls(calls):
        answered = answer_call(picture, number, numbers, row)
        told.append(len(answered))
        told.extend(answered)
    return told
