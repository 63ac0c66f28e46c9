"""A series, built line by line from its text, and the reasons why a line is wrong."""

from racetally.lines import read_line

LINE_FEED = 10

RIGHT = 0
NOT_FORMED = 1
TOO_MUCH = 2
CANT_STAND = 3
CLASHES = 4

MOST_BOATS = 64
MOST_OUTS = 32
MOST_RACES = 32


class Race:
    """What the lines of one race say, by the boats' numbers."""

    def __init__(self):
        # A boat's place, miss, dis or avg: the word and the line's numbers.
        self.results = {}
        self.pens = {}


class Series:
    """A series; new it is the one without a line."""

    def __init__(self):
        self.codes = []
        self.line_count = 0
        # Each boat's number by her name.
        self.boats = {}
        self.outs = []
        self.races = []


def race_copy(race):
    twin = Race()
    twin.results = dict(race.results)
    twin.pens = dict(race.pens)
    return twin


def series_copy(series):
    """A series of its own that says the same: what is added to it doesn't show in the first."""
    twin = Series()
    twin.codes = list(series.codes)
    twin.line_count = series.line_count
    twin.boats = dict(series.boats)
    twin.outs = list(series.outs)
    twin.races = [race_copy(race) for race in series.races]
    return twin


def result_word(race, boat):
    """Whether she has place, miss, dis or avg in the race; without a line she has missed it."""
    if boat in race.results:
        return race.results[boat][0]
    return "miss"


def may_have_pen(race, boat):
    # Asked of the lines themselves, for a miss without a line can't have a pen.
    return boat in race.results and race.results[boat][0] in ("place", "miss")


def boat_line_cant_stand(series, line):
    """Of a place, miss, dis, avg or pen line."""
    if len(series.races) == 0 or line.name not in series.boats:
        return True
    return line.word == "pen" and not may_have_pen(series.races[-1], series.boats[line.name])


def cant_stand(series, line):
    if line.word == "boat":
        return len(series.outs) > 0 or len(series.races) > 0
    if line.word == "out":
        return len(series.boats) == 0 or len(series.races) > 0
    if line.word == "race":
        return len(series.boats) == 0
    return boat_line_cant_stand(series, line)


def out_clashes(series, line):
    if len(series.outs) == 0:
        return False
    before = series.outs[-1]
    return line.numbers[0] <= before[0] or line.numbers[1] < before[1]


def boat_line_clashes(series, line):
    """Of a place, miss, dis, avg or pen line that can stand."""
    race = series.races[-1]
    boat = series.boats[line.name]
    if line.word == "pen":
        return boat in race.pens
    if boat in race.results:
        return True
    return line.word == "place" and line.numbers[0] + line.numbers[1] - 1 > len(series.boats)


def clashes(series, line):
    """Of a line that can stand."""
    if line.word == "boat":
        return line.name in series.boats
    if line.word == "out":
        return out_clashes(series, line)
    if line.word == "race":
        return False
    return boat_line_clashes(series, line)


def too_much(series, line):
    if line.word == "boat":
        return len(series.boats) >= MOST_BOATS
    if line.word == "out":
        # Never so of a line that doesn't clash, for 32 rising r use up all that are formed; kept as the rule it is.
        return len(series.outs) >= MOST_OUTS
    return line.word == "race" and len(series.races) >= MOST_RACES


def why_wrong(series, line):
    """The first reason that holds of the line behind this series; line is None where it isn't formed."""
    if line is None:
        return NOT_FORMED
    if cant_stand(series, line):
        return CANT_STAND
    if clashes(series, line):
        return CLASHES
    if too_much(series, line):
        return TOO_MUCH
    return RIGHT


def put_line(series, line):
    """Add a line that is right."""
    if line.word == "boat":
        series.boats[line.name] = len(series.boats)
    elif line.word == "out":
        series.outs.append((line.numbers[0], line.numbers[1]))
    elif line.word == "race":
        series.races.append(Race())
    elif line.word == "pen":
        series.races[-1].pens[series.boats[line.name]] = line.numbers[0]
    else:
        series.races[-1].results[series.boats[line.name]] = (line.word, line.numbers)
    series.line_count = series.line_count + 1


def add_text(series, codes):
    """Add a text's lines up to the first wrong one, and tell why that is wrong, or RIGHT where none is.

    Where one is wrong, its number is the series' line_count, and the series is not to be used any more.
    """
    row = []
    for code in codes:
        if code == LINE_FEED:
            line = read_line(row)
            why = why_wrong(series, line)
            if why != RIGHT:
                return why
            put_line(series, line)
            row = []
        else:
            row.append(code)
    if len(row) > 0:
        return NOT_FORMED
    series.codes.extend(codes)
    return RIGHT
