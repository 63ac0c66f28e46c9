"""A boat's points in the races that are looked at, counted in parts of a point, and fractions told of them."""

from racetally.series import result_word

# How many parts a point has: the least number that twice each of 1 to 32 divides. Points are halves, and an average
# is of 32 races at most, so all points are whole numbers of parts, and are added and compared as such.
PARTS = 288807105787200


def greatest_divisor(one, other):
    while other != 0:
        rest = one % other
        one = other
        other = rest
    return one


def lowest_terms(top, bottom):
    """The fraction top / bottom (bottom above 0) as numerator and denominator; nothing is 0 1."""
    divisor = greatest_divisor(top, bottom)
    return (top // divisor, bottom // divisor)


def told_fraction(parts):
    """So many parts of a point as a fraction."""
    return list(lowest_terms(parts, PARTS))


def most_points(series):
    """What a miss gives, in parts; no race gives more."""
    return (len(series.boats) + 1) * PARTS


def own_points(series, race, boat):
    """The boat's points in a race that isn't avg for her, in parts."""
    points = most_points(series)
    if result_word(race, boat) == "place":
        numbers = race.results[boat][1]
        points = numbers[0] * PARTS + (numbers[1] - 1) * (PARTS // 2)
    return min(points + race.pens.get(boat, 0) * PARTS, most_points(series))


def average_points(series, r, boat):
    """What avg gives the boat, the first r races looked at, in parts."""
    others = [own_points(series, race, boat) for race in series.races[:r] if result_word(race, boat) != "avg"]
    if len(others) == 0:
        return most_points(series)
    return sum(others) // len(others)


def points_by_race(series, r, boat):
    """The boat's points in each of the first r races, in parts."""
    average = average_points(series, r, boat)
    points = []
    for race in series.races[:r]:
        if result_word(race, boat) == "avg":
            points.append(average)
        else:
            points.append(own_points(series, race, boat))
    return points
