"""Who stands before whom and why, places, and the order."""

import unittest

from tests.helper import ask, before, order, out, place, tell, total

FOUR = ("boat a", "boat b", "boat c", "boat d")


def races(*rows):
    """A race for each row; a row has a result for each boat: a place, a word, or nothing where she has no line."""
    lines = []
    for row in rows:
        lines.append("race")
        for name, result in zip("abcdefgh", row):
            if isinstance(result, int):
                lines.append(f"place {name} {result} 1")
            elif isinstance(result, tuple):
                lines.append(f"place {name} {result[0]} {result[1]}")
            elif result:
                lines.append(f"{result} {name}")
    return tuple(lines)


class Before(unittest.TestCase):
    def stand(self, expected, lines, r):
        """Boat a to boat b, then the other way round."""
        turned = {0: 0, 1: 2, 2: 1}[expected[0]]
        self.assertEqual(tell(lines, before(r, 0, 1), before(r, 1, 0)), [expected, [turned, expected[1]]])


class ByTotal(Before):
    def test_less_stands_before(self):
        lines = FOUR + races((1, 2), (4, 2))
        self.stand([1, 1], lines, 1)
        self.stand([2, 1], lines, 2)

    def test_the_total_goes_before_all_else(self):
        # b has the better best race and the better last one.
        self.stand([1, 1], FOUR + races((2, 4), (2, 1)), 2)

    def test_what_is_left_out_does_not_count(self):
        lines = FOUR + ("out 2 1",) + races((4, 2), (1, 2))
        self.stand([2, 1], lines, 1)
        self.stand([1, 1], lines, 2)

    def test_fractions_are_not_rounded(self):
        # a's average of 30 races is 31/30, b's is 1.
        lines = FOUR + races(*[(1, "avg")] * 29, (2, "avg"), ("avg", 1))
        self.assertEqual(tell(lines, total(31, 0), total(31, 1)), [[0, 961, 30], [0, 31, 1]])
        self.stand([2, 1], lines, 31)

    def test_a_half_less(self):
        self.stand([1, 1], FOUR + races(((1, 2), 2)), 1)
        self.stand([2, 1], FOUR + races(((1, 2), 1)), 1)

    def test_averages_of_different_denominators(self):
        # a's averages are 3/2 twice, b's is 4/3: 6 to 16/3.
        self.stand([2, 1], FOUR + races(("avg", "avg"), (1, 1), (2, 2), ("avg", 1)), 4)


class ByPointsFromTheLeast(Before):
    def test_the_better_best_race(self):
        self.stand([2, 2], FOUR + races((2, 1), (2, 3)), 2)
        self.stand([1, 2], FOUR + races((1, 2), (3, 2)), 2)

    def test_it_goes_before_the_last_race(self):
        self.stand([1, 2], FOUR + races((1, 2), (3, 2)), 2)
        self.stand([2, 2], FOUR + races((2, 3), (3, 3), (3, 1), (2, 3)), 4)

    def test_the_first_at_which_they_differ(self):
        # 1 2 4 and 1 3 3
        self.stand([1, 2], FOUR + races((4, 3), (2, 3), (1, 1)), 3)
        self.stand([2, 2], FOUR + races((3, 4), (3, 2), (1, 1)), 3)

    def test_the_left_out_do_not_count(self):
        # a's 1 and 3 to b's 2 and 2 with the worst left out, and then to b's 1 and 3.
        rows = ((1, 2), (3, 2), (4, "miss"))
        self.stand([1, 2], FOUR + ("out 3 1",) + races(*rows), 3)
        rows = ((1, 1), (3, 3), (4, "miss"))
        self.stand([1, 3], FOUR + ("out 3 1",) + races(*rows), 3)

    def test_with_a_shared_place(self):
        self.stand([1, 2], FOUR + races(((1, 2), 2), (3, (2, 2))), 2)

    def test_with_averages(self):
        # a has 2 2 2, b 1 3 2.
        self.stand([2, 2], FOUR + races((2, 1), (2, 3), (2, "avg")), 3)
        # a has 3/2 1 2, b 3/2 3/2 3/2.
        self.stand([1, 2], FOUR + races(("avg", (1, 2)), (1, (1, 2)), (2, "avg")), 3)

    def test_with_dis_and_as_many_left_out(self):
        # a keeps 4 4, b 3 and the 5 of her dis.
        lines = FOUR + ("out 4 2",) + races((4, "dis"), (4, 3), (4, 4), (4, 4))
        self.assertEqual(tell(lines, out(4, 0), out(4, 1)), [[2, 0, 1], [2, 2, 3]])
        self.stand([2, 2], lines, 4)

    def test_lists_of_different_lengths(self):
        # b keeps a dis more than a keeps races, and dis are the most points there are: a total is always less.
        lines = FOUR + ("out 3 2",) + races(("miss", "dis"), ("miss", "dis"), ("miss", 1))
        self.assertEqual(tell(lines, out(3, 0), out(3, 1), total(3, 0), total(3, 1)),
                         [[2, 0, 1], [1, 2], [0, 5, 1], [0, 10, 1]])
        self.stand([1, 1], lines, 3)
        # Nothing is kept of a.
        lines = FOUR + ("out 1 2",) + races((4, "dis"), (4, 1))
        self.assertEqual(tell(lines, out(2, 0), out(2, 1), total(2, 0), total(2, 1)),
                         [[2, 0, 1], [1, 1], [0, 0, 1], [0, 5, 1]])
        self.stand([1, 1], lines, 2)
        # Both have dis, one and two.
        lines = FOUR + ("out 1 3",) + races(("dis", "dis"), (4, "dis"), (4, 1))
        self.assertEqual(tell(lines, out(3, 0), out(3, 1), total(3, 0), total(3, 1)),
                         [[2, 1, 2], [1, 2], [0, 5, 1], [0, 10, 1]])
        self.stand([1, 1], lines, 3)


class ByTheLastRace(Before):
    def test_the_last_race_first(self):
        self.stand([1, 3], FOUR + races((2, 1), (1, 2)), 2)
        self.stand([2, 3], FOUR + races((1, 2), (2, 1)), 2)

    def test_backwards_to_the_first_at_which_they_differ(self):
        self.stand([1, 3], FOUR + races((2, 1), (1, 2), (4, 4), (3, 3)), 4)
        self.stand([1, 3], FOUR + races((3, 2), (2, 1), (1, 3)), 3)
        self.stand([2, 3], FOUR + races((1, 3), (2, 1), (3, 2)), 3)

    def test_only_the_races_looked_at(self):
        lines = FOUR + races((2, 1), (1, 2), (3, 4), (4, 3))
        for r, expected in ((0, [0, 0]), (1, [2, 1]), (2, [1, 3]), (3, [1, 1]), (4, [2, 3])):
            self.stand(expected, lines, r)

    def test_races_left_out_count_too(self):
        # a leaves out a 3, b a 4, both keep 1 and 2.
        self.stand([1, 3], FOUR + ("out 3 1",) + races((1, 1), (2, 2), (3, 4)), 3)
        self.stand([2, 3], FOUR + ("out 3 1",) + races((4, 3), (2, 2), (1, 1)), 3)
        # b left the last one out, which was her worst, and a the first one: the last is better for a.
        self.stand([1, 3], FOUR + ("out 3 1",) + races((4, 2), (2, 1), (1, 4)), 3)

    def test_all_left_out(self):
        lines = FOUR + ("out 1 3",) + races((2, 1), (2, 4), (2, 2))
        for r, expected in ((0, [0, 0]), (1, [2, 3]), (2, [1, 3]), (3, [1, 3])):
            self.stand(expected, lines, r)
        self.assertEqual(tell(lines, total(3, 0), total(3, 1)), [[0, 0, 1], [0, 0, 1]])

    def test_an_average_in_the_last_race(self):
        # 1 2 and the average 3/2 to 2, 1 and 3/2 as a shared place: the middle race tells.
        self.stand([1, 3], FOUR + races((2, 1), (1, 2), ("avg", (1, 2))), 3)
        # The average 3/2 stands last for a, for b the 2.
        self.stand([1, 3], FOUR + races((2, (1, 2)), (1, 1), ("avg", 2)), 3)


class Tied(Before):
    def test_the_same_points_in_each_race(self):
        self.stand([0, 0], FOUR + races(((1, 2), (1, 2)), (None, "miss"), ("dis", "miss")), 3)
        self.stand([0, 0], FOUR + races((1, 1), (2, 2)), 2)

    def test_the_same_points_told_otherwise(self):
        # A place of 2 is as much as one of 1 shared by three, or as the average of 1 and 3.
        self.stand([0, 0], FOUR + races((2, (1, 3)), (1, 1), (3, 3)), 3)
        self.stand([0, 0], FOUR + races((2, "avg"), (1, 1), (3, 3)), 3)

    def test_after_no_race(self):
        self.stand([0, 0], FOUR + races((1, 2)), 0)
        self.stand([0, 0], FOUR, 0)

    def test_a_boat_and_herself(self):
        lines = FOUR + ("out 2 1",) + races((1, "dis"), ("avg", 2), (3, 1))
        for r in range(4):
            for boat in range(4):
                self.assertEqual(tell(lines, before(r, boat, boat)), [[0, 0]])

    def test_no_longer_where_dis_is_kept(self):
        # a leaves the miss of 5 out and keeps the 1; b keeps her dis of 5 and leaves the 1 out.
        lines = FOUR + races(("miss", "dis"), (1, 1))
        self.stand([0, 0], lines, 2)
        lines = FOUR + ("out 2 1",) + races(("miss", "dis"), (1, 1))
        self.stand([1, 1], lines, 2)


class PlaceAndOrder(unittest.TestCase):
    def rows(self, lines, r, count):
        """The order and each boat's place and shared after r races."""
        told = tell(lines, order(r), *[place(r, boat) for boat in range(count)])
        self.assertEqual([row[0] for row in told[1:]], [0] * count)
        return told[0], [tuple(row[1:]) for row in told[1:]]

    def test_one_boat(self):
        lines = ("boat a", "race", "place a 1 1", "race", "dis a")
        for r in range(3):
            self.assertEqual(self.rows(lines, r, 1), ([1, 0], [(1, 1)]))

    def test_after_no_race_all_are_tied(self):
        self.assertEqual(self.rows(FOUR, 0, 4), ([4, 0, 1, 2, 3], [(1, 4)] * 4))
        self.assertEqual(self.rows(FOUR + races((4, 3, 2, 1)), 0, 4), ([4, 0, 1, 2, 3], [(1, 4)] * 4))

    def test_one_race(self):
        self.assertEqual(self.rows(FOUR + races((4, 3, 2, 1)), 1, 4),
                         ([4, 3, 2, 1, 0], [(4, 1), (3, 1), (2, 1), (1, 1)]))
        self.assertEqual(self.rows(FOUR + races((2, 4, 1, 3)), 1, 4),
                         ([4, 2, 0, 3, 1], [(2, 1), (4, 1), (1, 1), (3, 1)]))

    def test_tied_ones_stand_by_number(self):
        lines = FOUR + races(((3, 2), (1, 2), (3, 2), (1, 2)))
        self.assertEqual(self.rows(lines, 1, 4), ([4, 1, 3, 0, 2], [(3, 2), (1, 2), (3, 2), (1, 2)]))
        lines = FOUR + races((None, 1, "dis", "miss"))
        self.assertEqual(self.rows(lines, 1, 4), ([4, 1, 0, 2, 3], [(2, 3), (1, 1), (2, 3), (2, 3)]))

    def test_places_follow_the_rules_not_the_totals_alone(self):
        # Totals of 4 for a, b, c: 2 2, 1 3 and 3 1; the last two differ in the last race.
        lines = FOUR + races((2, 1, 3), (2, 3, 1))
        self.assertEqual(self.rows(lines, 2, 4), ([4, 2, 1, 0, 3], [(3, 1), (2, 1), (1, 1), (4, 1)]))

    def test_after_each_number_of_races(self):
        lines = FOUR + ("out 3 1",) + races((1, 2, 3, 4), (4, 2, 3, 1), ("dis", 2, 1, "avg"), (1, 1, 1, 1))
        # Points: a 1 4 5* 1; b 2 2 2 1; c 3 3 1 1; d 4 1 avg 1, whose average is 5, 5/2, 5/2, 2.
        self.assertEqual(self.rows(lines, 0, 4)[0], [4, 0, 1, 2, 3])
        self.assertEqual(self.rows(lines, 1, 4), ([4, 0, 1, 2, 3], [(1, 1), (2, 1), (3, 1), (4, 1)]))
        # a 5 (1 4), b 4, c 6, d 5 (1 4, the better last race)
        self.assertEqual(self.rows(lines, 2, 4), ([4, 1, 3, 0, 2], [(3, 1), (1, 1), (4, 1), (2, 1)]))
        # a 6 (1 5), b 4 (2 2), c 4 (1 3), d 7/2 (1 5/2)
        self.assertEqual(self.rows(lines, 3, 4), ([4, 3, 2, 1, 0], [(4, 1), (3, 1), (2, 1), (1, 1)]))
        # a 7, b 5 (1 2 2), c 5 (1 1 3), d 4 (1 1 2)
        self.assertEqual(self.rows(lines, 4, 4), ([4, 3, 2, 1, 0], [(4, 1), (3, 1), (2, 1), (1, 1)]))

    def test_64_boats(self):
        boats = tuple(f"boat b{number}" for number in range(64))
        lines = boats + ("race",) + tuple(f"place b{number} {64 - number} 1" for number in range(64))
        self.assertEqual(self.rows(lines, 1, 64),
                         ([64] + list(range(63, -1, -1)), [(64 - boat, 1) for boat in range(64)]))
        self.assertEqual(self.rows(lines, 0, 64), ([64] + list(range(64)), [(1, 64)] * 64))

    def test_pairs_of_tied_boats(self):
        boats = tuple(f"boat b{number}" for number in range(64))
        lines = boats + ("race",) + tuple(f"place b{number} {number // 2 * 2 + 1} 2" for number in range(64))
        self.assertEqual(self.rows(lines, 1, 64),
                         ([64] + list(range(64)), [(boat // 2 * 2 + 1, 2) for boat in range(64)]))


class Refusals(unittest.TestCase):
    LINES = ("boat a", "boat b", "race", "place a 1 1", "race")

    def test_r_above_the_number_of_races(self):
        for r in (3, 4, 16383):
            self.assertEqual(tell(self.LINES, before(r, 0, 1), place(r, 0), order(r)), [[-8], [-8], [-8]])
        self.assertEqual(tell(self.LINES, before(2, 0, 1), place(2, 0), order(2)), [[1, 1], [0, 1, 1], [2, 0, 1]])

    def test_no_such_boat(self):
        for boat in (2, 3, 16383):
            self.assertEqual(tell(self.LINES, before(1, 0, boat), before(1, boat, 0), before(1, boat, boat),
                                  before(0, boat, 1), place(1, boat), place(0, boat)), [[-4]] * 6)

    def test_the_races_are_asked_for_first(self):
        self.assertEqual(tell(self.LINES, before(3, 2, 0), before(3, 0, 2), before(3, 9, 9), place(3, 2)), [[-8]] * 4)

    def test_a_new_object(self):
        self.assertEqual(ask(before(0, 0, 0), before(1, 0, 0), place(0, 0), place(1, 0), order(0), order(1)),
                         [[-4], [-8], [-4], [-8], [0], [-8]])

    def test_boats_without_races(self):
        self.assertEqual(tell(("boat a", "boat b"), before(0, 0, 1), before(0, 0, 2), before(1, 0, 1), place(0, 1),
                              place(0, 2), place(1, 0), order(0), order(1)),
                         [[0, 0], [-4], [-8], [0, 1, 2], [-4], [-8], [2, 0, 1], [-8]])


if __name__ == "__main__":
    unittest.main()
