"""A boat's points in a race, as fractions."""


def greatest_divisor(one, other):
    while other != 0:
        rest = one % other
        one = other
        other = rest
    return one


def lowest_terms(top, bottom):
    """The fraction top / bottom (bottom above 0) as numerator and denominator; nothing is 0 1."""
    divisor = greatest_divisor(top, bottom)
    return (top // divisor, bottom // divisor)


def is_average(race, boat):
    return boat in race.results and race.results[boat][0] == "avg"


def doubled_points(series, race, boat):
    """Twice the boat's points in a race that isn't avg for her: whole, for a shared place has halves at most."""
    most = 2 * (len(series.boats) + 1)
    points = most
    if boat in race.results and race.results[boat][0] == "place":
        numbers = race.results[boat][1]
        points = 2 * numbers[0] + numbers[1] - 1
    return min(points + 2 * race.pens.get(boat, 0), most)


def average_points(series, r, boat):
    """What avg gives the boat, the first r races looked at."""
    others = [doubled_points(series, race, boat) for race in series.races[:r] if not is_average(race, boat)]
    if len(others) == 0:
        return (len(series.boats) + 1, 1)
    return lowest_terms(sum(others), 2 * len(others))


def boat_points(series, r, boat, k):
    """The boat's points in race k, one of the first r that are looked at."""
    race = series.races[k]
    if is_average(race, boat):
        return average_points(series, r, boat)
    return lowest_terms(doubled_points(series, race, boat), 2)
