"""A picture with a part to be mended, and the calls about it, written as one list of whole numbers."""

MOST_SIDE = 12
MOST_COLOUR = 255
MOST_OF_PART = 24

# The refusals: each is answered alone, and leaves all as it was.
OUT_OF_BOUNDS = -1
WRONG_COLOURS = -3
PART_TOO_LARGE = -5

# How many whole numbers stand behind a call's own number, ahead of its row.
NUMBERS_OF_CALL = {1: 2, 2: 0, 3: 0, 4: 4, 5: 2, 6: 0}
CALLS_WITH_ROW = (1, 2)


def is_side(length):
    return 1 <= length <= MOST_SIDE


def colours_fit(colours, pixels):
    return len(colours) == pixels and all([colour <= MOST_COLOUR for colour in colours])


# A pixel's place is its number in order, from 0 on, so that the part fits both pictures' lists of colours.
# Each call's method gives back the list of the numbers answered: some calls answer several.
class Picture:
    def __init__(self):
        self.wide = 1
        self.high = 1
        self.colours = [0]
        self.other = [0]
        self.part = []

    def begin(self, w, h, colours):
        if not (is_side(w) and is_side(h)):
            return [OUT_OF_BOUNDS]
        if not colours_fit(colours, w * h):
            return [WRONG_COLOURS]
        self.wide = w
        self.high = h
        self.colours = list(colours)
        self.other = [0] * (w * h)
        self.part = []
        return [0]

    def take_other(self, colours):
        if not colours_fit(colours, len(self.colours)):
            return [WRONG_COLOURS]
        self.other = list(colours)
        return [0]

    def flatten_other(self):
        self.other = [0] * len(self.colours)
        return [0]

    def take_part(self, x, y, w, h):
        # The picture's pixels are walked, not the rectangle's: its sides may be as large as 2 ** 64 - 1.
        places = []
        for place in range(len(self.colours)):
            if x <= place % self.wide < x + w and y <= place // self.wide < y + h:
                places.append(place)
        if len(places) > MOST_OF_PART:
            return [PART_TOO_LARGE]
        self.part = places
        return [len(places)]

    def add_pixel(self, x, y):
        if x >= self.wide or y >= self.high:
            return [OUT_OF_BOUNDS]
        place = y * self.wide + x
        if place in self.part:
            return [len(self.part)]
        if len(self.part) == MOST_OF_PART:
            return [PART_TOO_LARGE]
        self.part.append(place)
        return [len(self.part)]

    def drop_part(self):
        self.part = []
        return [0]


# Each call becomes its own number, its whole numbers and its row, the latter empty where a call has none.
def split_calls(calls):
    parted = []
    at = 0
    while at < len(calls):
        number = calls[at]
        behind = at + 1 + NUMBERS_OF_CALL[number]
        numbers = calls[at + 1:behind]
        row = []
        if number in CALLS_WITH_ROW:
            start = behind + 1
            behind = start + calls[behind]
            row = calls[start:behind]
        parted.append((number, numbers, row))
        at = behind
    return parted


def answer_call(picture, number, numbers, row):
    if number == 1:
        return picture.begin(numbers[0], numbers[1], row)
    if number == 2:
        return picture.take_other(row)
    if number == 3:
        return picture.flatten_other()
    if number == 4:
        return picture.take_part(numbers[0], numbers[1], numbers[2], numbers[3])
    if number == 5:
        return picture.add_pixel(numbers[0], numbers[1])
    return picture.drop_part()


def answers(calls):
    picture = Picture()
    told = []
    for number, numbers, row in split_calls(calls):
        answered = answer_call(picture, number, numbers, row)
        told.append(len(answered))
        told.extend(answered)
    return told
