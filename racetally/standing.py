"""Which of a boat's races are left out, and how the boats stand."""

from racetally.points import points_by_race
from racetally.series import result_word


def out_count(series, r):
    """How many races the out lines ask to leave out after r races."""
    count = 0
    # The r of outs rise, so the last one that isn't above is the one that stays.
    for out in series.outs:
        if out[0] <= r:
            count = out[1]
    return count


def left_out(series, boat, points):
    """The numbers, rising, of the races that are left out, points being hers in each race that is looked at."""
    may_be_left = [k for k in range(len(points)) if result_word(series.races[k], boat) != "dis"]
    # Sorting leaves races with as many points in their order: the earlier one stays first.
    worst_first = sorted(may_be_left, key=lambda k: -points[k])
    return sorted(worst_first[:out_count(series, len(points))])


def kept_points(series, boat, points):
    """Her points that are not left out, race by race."""
    out = left_out(series, boat, points)
    return [points[k] for k in range(len(points)) if k not in out]


def boat_score(series, r, boat):
    """What a boat's standing is told by, one for each of the three rules: who has less stands before.

    Boats with the same total never have one's sorted points as the beginning of the other's, for all points are
    above 0; so it doesn't matter that Python takes the shorter of such lists as less.
    """
    points = points_by_race(series, r, boat)
    kept = kept_points(series, boat, points)
    return (sum(kept), sorted(kept), list(reversed(points)))


def all_scores(series, r):
    return [boat_score(series, r, boat) for boat in range(len(series.boats))]


def who_is_before(one, other):
    """Which of two scores stands before (1 or 2, 0 if they're tied), and by which of the three rules (0 if tied)."""
    for rule in range(len(one)):
        if one[rule] < other[rule]:
            return [1, rule + 1]
        if other[rule] < one[rule]:
            return [2, rule + 1]
    return [0, 0]


def place_and_shared(series, r, boat):
    scores = all_scores(series, r)
    ahead = [score for score in scores if score < scores[boat]]
    return [1 + len(ahead), scores.count(scores[boat])]


def boats_in_order(series, r):
    """The boats' numbers as they stand; sorting leaves tied ones by number."""
    scores = all_scores(series, r)
    return sorted(range(len(scores)), key=lambda boat: scores[boat])
