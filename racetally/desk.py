"""The calls on one object, and their answers as one list of whole numbers."""

from racetally.points import points_by_race, told_fraction
from racetally.series import RIGHT, Series, add_text, series_copy
from racetally.standing import boat_score, boats_in_order, left_out, place_and_shared, who_is_before

TAKE = 0
MORE = 1
TEXT = 2
SIZES = 3
POINTS = 4
OUT = 5
TOTAL = 6
BEFORE = 7
PLACE = 8

# How many whole numbers each call without a row, from text to order, has behind its own number.
NUMBER_COUNTS = {2: 0, 3: 0, 4: 3, 5: 2, 6: 2, 7: 3, 8: 2, 9: 1}

GRANTED = 0
TOO_LONG = -2
NO_SUCH = -4
FAULT = -6
TOO_MANY_RACES = -8

MOST_CODES = 65536


class Desk:
    """The object: it holds a series; new it holds the one without a line."""

    def __init__(self):
        self.series = Series()

    def take(self, codes):
        return self.hold(Series(), codes)

    def more(self, codes):
        # The held lines are right and no later line changes that, so reading goes on behind them.
        return self.hold(series_copy(self.series), codes)

    def hold(self, series, codes):
        """Hold the series with the text behind its own, if nothing is wrong with it."""
        if len(series.codes) + len(codes) > MOST_CODES:
            return [TOO_LONG]
        why = add_text(series, codes)
        if why != RIGHT:
            return [FAULT, series.line_count, why]
        self.series = series
        return [0]

    def text(self):
        return [len(self.series.codes)] + self.series.codes

    def sizes(self):
        return [0, len(self.series.boats), len(self.series.outs), len(self.series.races)]

    def refusal(self, r, boats):
        """Why what's asked after r races of these boats is refused, or GRANTED where it isn't."""
        if r > len(self.series.races):
            return TOO_MANY_RACES
        for boat in boats:
            if boat >= len(self.series.boats):
                return NO_SUCH
        return GRANTED

    def points(self, r, i, k):
        refused = self.refusal(r, [i])
        if refused != GRANTED:
            return [refused]
        if k >= r:
            return [NO_SUCH]
        return [0] + told_fraction(points_by_race(self.series, r, i)[k])

    def out(self, r, i):
        refused = self.refusal(r, [i])
        if refused != GRANTED:
            return [refused]
        races = left_out(self.series, i, points_by_race(self.series, r, i))
        return [len(races)] + races

    def total(self, r, i):
        refused = self.refusal(r, [i])
        if refused != GRANTED:
            return [refused]
        return [0] + told_fraction(boat_score(self.series, r, i)[0])

    def before(self, r, i, j):
        refused = self.refusal(r, [i, j])
        if refused != GRANTED:
            return [refused]
        return who_is_before(boat_score(self.series, r, i), boat_score(self.series, r, j))

    def place(self, r, i):
        refused = self.refusal(r, [i])
        if refused != GRANTED:
            return [refused]
        return [0] + place_and_shared(self.series, r, i)

    def order(self, r):
        refused = self.refusal(r, [])
        if refused != GRANTED:
            return [refused]
        boats = boats_in_order(self.series, r)
        return [len(boats)] + boats


def call_end(calls, start):
    """Where the call that begins at start is over."""
    if calls[start] in (TAKE, MORE):
        return start + 2 + calls[start + 1]
    return start + 1 + NUMBER_COUNTS[calls[start]]


def answer(desk, call):
    """The answer to one call, given with its own number first."""
    if call[0] == TAKE:
        return desk.take(call[2:])
    if call[0] == MORE:
        return desk.more(call[2:])
    if call[0] == TEXT:
        return desk.text()
    if call[0] == SIZES:
        return desk.sizes()
    if call[0] == POINTS:
        return desk.points(call[1], call[2], call[3])
    if call[0] == OUT:
        return desk.out(call[1], call[2])
    if call[0] == TOTAL:
        return desk.total(call[1], call[2])
    if call[0] == BEFORE:
        return desk.before(call[1], call[2], call[3])
    if call[0] == PLACE:
        return desk.place(call[1], call[2])
    return desk.order(call[1])


def answers(calls):
    """The answers to the calls on a new object, each with how many numbers it has before it."""
    desk = Desk()
    told = []
    start = 0
    while start < len(calls):
        end = call_end(calls, start)
        numbers = answer(desk, calls[start:end])
        told.append(len(numbers))
        told.extend(numbers)
        start = end
    return told
