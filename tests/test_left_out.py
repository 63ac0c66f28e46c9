"""Which races are left out, and the total of the others."""

import unittest

from tests.helper import ask, out, tell, total

FOUR = ("boat a", "boat b", "boat c", "boat d")


def races_of_a(*results):
    """A race for each result of boat a: a place, a word, or nothing where she has no line."""
    lines = []
    for result in results:
        lines.append("race")
        if isinstance(result, int):
            lines.append(f"place a {result} 1")
        elif result:
            lines.append(result)
    return tuple(lines)


class LeftOut(unittest.TestCase):
    def out_of_a(self, outs, results, r=None):
        """What out tells of boat a, after all the races if r isn't told."""
        r = len(results) if r is None else r
        return tell(FOUR + tuple(outs) + races_of_a(*results), out(r, 0))[0]


class HowMany(LeftOut):
    def test_without_an_out_line(self):
        for r in range(5):
            self.assertEqual(self.out_of_a([], (1, 4, 2, 3), r), [0])

    def test_one_out_line_below_at_and_above_its_r(self):
        for r, told in ((0, [0]), (1, [0]), (2, [0]), (3, [1, 1]), (4, [1, 1]), (5, [1, 1])):
            self.assertEqual(self.out_of_a(["out 3 1"], (1, 4, 2, 3, 2), r), told)

    def test_an_out_line_from_one_race_on(self):
        for r, told in ((0, [0]), (1, [1, 0]), (2, [1, 1])):
            self.assertEqual(self.out_of_a(["out 1 1"], (1, 4), r), told)

    def test_several_out_lines_each_from_its_r_on(self):
        outs = ["out 2 1", "out 4 2", "out 5 2", "out 7 4"]
        results = (1, 4, 2, 3, 3, 1, 2, 1)
        for r, told in ((0, [0]), (1, [0]), (2, [1, 1]), (3, [1, 1]), (4, [2, 1, 3]), (5, [2, 1, 3]), (6, [2, 1, 3]),
                        (7, [4, 1, 2, 3, 4]), (8, [4, 1, 2, 3, 4])):
            self.assertEqual(self.out_of_a(outs, results, r), told)

    def test_out_lines_whose_r_no_race_reaches(self):
        self.assertEqual(self.out_of_a(["out 1 1", "out 5 2", "out 32 31"], (1, 2, 3, 4)), [1, 3])

    def test_none_asked_for_by_an_out_line(self):
        self.assertEqual(self.out_of_a(["out 1 0", "out 2 0"], (1, 2, 3)), [0])
        self.assertEqual(self.out_of_a(["out 1 0", "out 3 1"], (1, 2, 3)), [1, 2])

    def test_k_below_at_and_above_the_number_of_races(self):
        for k, told in ((0, [0]), (1, [1, 2]), (2, [2, 1, 2]), (3, [3, 0, 1, 2]), (4, [3, 0, 1, 2]),
                        (31, [3, 0, 1, 2])):
            self.assertEqual(self.out_of_a([f"out 1 {k}"], (1, 2, 3)), told)

    def test_31_of_32_races(self):
        results = (2,) * 10 + (1,) + (2,) * 21
        self.assertEqual(self.out_of_a(["out 32 31"], results), [31] + [k for k in range(32) if k != 10])
        self.assertEqual(self.out_of_a(["out 32 31"], results, 31), [0])
        self.assertEqual(self.out_of_a(["out 31 31"], results, 31), [31] + list(range(31)))


class Which(LeftOut):
    def test_those_with_the_most_points(self):
        for results, told in (((4, 1, 2, 3), [2, 0, 3]), ((1, 2, 3, 4), [2, 2, 3]), ((3, 1, 4, 2), [2, 0, 2]),
                              ((2, "miss a", 1, 4), [2, 1, 3]), ((2, None, 1, 4), [2, 1, 3])):
            self.assertEqual(self.out_of_a(["out 1 2"], results), told)

    def test_of_as_many_points_the_earlier_one_first(self):
        for k, told in ((1, [1, 1]), (2, [2, 1, 2]), (3, [3, 1, 2, 4]), (4, [4, 0, 1, 2, 4])):
            self.assertEqual(self.out_of_a([f"out 1 {k}"], (2, 3, 3, 2, 3)), told)
        self.assertEqual(self.out_of_a(["out 1 2"], (1, 1, 1, 1)), [2, 0, 1])
        self.assertEqual(self.out_of_a(["out 1 1"], (4, None, "miss a")), [1, 1])

    def test_points_count_not_places(self):
        self.assertEqual(self.out_of_a(["out 1 1"], (3, "place a 1 4", 2)), [1, 0])
        self.assertEqual(self.out_of_a(["out 1 1"], (2, "place a 2 2", 2)), [1, 1])
        self.assertEqual(self.out_of_a(["out 1 1"], (2, "place a 1 3", 1)), [1, 0])

    def test_a_pen_counts_up_to_the_most(self):
        lines = FOUR + ("out 1 1", "race", "place a 4 1", "race", "place a 1 1", "pen a 4", "race", "miss a", "pen a 9")
        self.assertEqual(tell(lines, out(1, 0), out(2, 0), out(3, 0)), [[1, 0], [1, 1], [1, 1]])
        lines = FOUR + ("out 1 1", "race", "miss a", "race", "place a 1 1", "pen a 99")
        self.assertEqual(tell(lines, out(2, 0)), [[1, 0]])

    def test_the_numbers_rise(self):
        self.assertEqual(self.out_of_a(["out 1 3"], (2, 1, 3, 1, 4)), [3, 0, 2, 4])
        self.assertEqual(self.out_of_a(["out 1 3"], (4, 1, 3, 1, 2)), [3, 0, 2, 4])

    def test_each_boat_has_her_own(self):
        lines = FOUR + ("out 1 1", "race", "place a 1 1", "place b 2 1", "race", "place a 2 1", "place b 1 1",
                        "place c 3 1")
        self.assertEqual(tell(lines, out(2, 0), out(2, 1), out(2, 2), out(2, 3)), [[1, 1], [1, 0], [1, 0], [1, 0]])


class Disqualified(LeftOut):
    def test_never_left_out(self):
        self.assertEqual(self.out_of_a(["out 1 1"], (1, "dis a", 2)), [1, 2])
        self.assertEqual(self.out_of_a(["out 1 1"], ("dis a", 2, 1)), [1, 1])
        self.assertEqual(self.out_of_a(["out 1 1"], ("dis a", None, "miss a")), [1, 1])

    def test_fewer_where_there_are_not_as_many_others(self):
        for results, told in ((("dis a",), [0]), (("dis a", "dis a"), [0]), (("dis a", 1), [1, 1]),
                              ((1, "dis a"), [1, 0]), ((1, "dis a", 2), [2, 0, 2]), ((1, 3, "dis a", 2), [2, 1, 3]),
                              (("dis a", "dis a", 4, "dis a"), [1, 2])):
            self.assertEqual(self.out_of_a(["out 1 2"], results), told)

    def test_another_boats_dis(self):
        self.assertEqual(tell(FOUR + ("out 1 1", "race", "place a 2 1", "dis b", "race", "place a 1 1", "place b 1 1"),
                              out(2, 0), out(2, 1), total(2, 0), total(2, 1)), [[1, 0], [1, 1], [0, 1, 1], [0, 5, 1]])


class Averages(LeftOut):
    def test_avg_left_out_or_not(self):
        # The average of 1, 4 is 5/2, below 4 and above 1.
        self.assertEqual(self.out_of_a(["out 1 1"], (1, "avg a", 4)), [1, 2])
        self.assertEqual(self.out_of_a(["out 1 2"], (1, "avg a", 4)), [2, 1, 2])
        self.assertEqual(self.out_of_a(["out 1 2"], ("avg a", 4, 1)), [2, 0, 1])

    def test_avg_has_as_many_points_as_another(self):
        self.assertEqual(self.out_of_a(["out 1 1"], ("avg a", 2, 2)), [1, 0])
        self.assertEqual(self.out_of_a(["out 1 1"], (2, "avg a", 2)), [1, 0])
        self.assertEqual(self.out_of_a(["out 1 2"], (2, "avg a", 2)), [2, 0, 1])
        self.assertEqual(self.out_of_a(["out 1 1"], (1, "avg a", 2, 3, "avg a")), [1, 3])
        self.assertEqual(self.out_of_a(["out 1 2"], (1, "avg a", 2, 3, "avg a")), [2, 1, 3])

    def test_avg_alone(self):
        self.assertEqual(self.out_of_a(["out 1 1"], ("avg a",)), [1, 0])
        self.assertEqual(self.out_of_a(["out 1 1"], ("avg a", "avg a")), [1, 0])

    def test_avg_changes_with_r(self):
        results = ("avg a", 2, 1, 4)
        # 2 after two races (as many as race 1), 3/2 after three, 7/3 after four.
        for r, told in ((1, [1, 0]), (2, [1, 0]), (3, [1, 1]), (4, [1, 3])):
            self.assertEqual(self.out_of_a(["out 1 1"], results, r), told)

    def test_the_left_out_count_in_the_average(self):
        lines = FOUR + ("out 1 1",) + races_of_a(1, "miss a", "avg a")
        # The average is 3 though the miss is left out.
        self.assertEqual(tell(lines, out(3, 0), total(3, 0)), [[1, 1], [0, 4, 1]])

    def test_an_average_close_to_a_place(self):
        # 31/30 and 3/2: an average that rounding to halves would make as many as another.
        results = (1,) * 29 + (2,) + ("avg a", 1)
        self.assertEqual(self.out_of_a(["out 1 2"], results), [2, 29, 30])


class Total(unittest.TestCase):
    def totals(self, lines, *rs):
        return tell(lines, *[total(r, 0) for r in rs])

    def test_after_no_race(self):
        self.assertEqual(self.totals(FOUR, 0), [[0, 0, 1]])
        self.assertEqual(self.totals(FOUR + ("out 1 1",) + races_of_a(1, 2), 0), [[0, 0, 1]])

    def test_without_races_left_out(self):
        self.assertEqual(self.totals(FOUR + races_of_a(1, 4, None, "miss a", "dis a"), 1, 2, 3, 4, 5),
                         [[0, 1, 1], [0, 5, 1], [0, 10, 1], [0, 15, 1], [0, 20, 1]])

    def test_with_races_left_out(self):
        self.assertEqual(self.totals(FOUR + ("out 2 1", "out 4 2") + races_of_a(1, 4, None, 2, 3), 1, 2, 3, 4, 5),
                         [[0, 1, 1], [0, 1, 1], [0, 5, 1], [0, 3, 1], [0, 6, 1]])

    def test_all_left_out(self):
        self.assertEqual(self.totals(FOUR + ("out 1 3",) + races_of_a(1, 4, 3, 2), 1, 2, 3, 4),
                         [[0, 0, 1], [0, 0, 1], [0, 0, 1], [0, 1, 1]])

    def test_dis_always_counts(self):
        self.assertEqual(self.totals(FOUR + ("out 1 2",) + races_of_a("dis a", 4, 3, 2, "dis a"), 1, 2, 3, 4, 5),
                         [[0, 5, 1], [0, 5, 1], [0, 5, 1], [0, 7, 1], [0, 12, 1]])

    def test_with_halves(self):
        halves = ("place a 1 2", "place a 2 2", "place a 1 4")
        self.assertEqual(self.totals(FOUR + races_of_a(*halves), 1, 2, 3), [[0, 3, 2], [0, 4, 1], [0, 13, 2]])
        self.assertEqual(self.totals(FOUR + ("out 2 1",) + races_of_a(*halves), 1, 2, 3),
                         [[0, 3, 2], [0, 3, 2], [0, 4, 1]])

    def test_with_a_pen(self):
        lines = FOUR + ("race", "place a 1 2", "pen a 1", "race", "place a 3 1", "pen a 50")
        self.assertEqual(self.totals(lines, 1, 2), [[0, 5, 2], [0, 15, 2]])

    def test_with_averages_of_other_denominators(self):
        results = ("avg a", 1, 2, "place a 1 2", "avg a", 4, "place a 3 2", 1)
        # The others' average is 5, then 1, 3/2, 3/2, 3/2, 17/8, 12/5, 13/6.
        self.assertEqual(self.totals(FOUR + races_of_a(*results), 1, 2, 3, 4, 5, 6, 7, 8),
                         [[0, 5, 1], [0, 2, 1], [0, 9, 2], [0, 6, 1], [0, 15, 2], [0, 51, 4], [0, 84, 5], [0, 52, 3]])

    def test_with_an_average_of_31_others(self):
        results = ("avg a", "place a 1 2") + (1,) * 30
        self.assertEqual(self.totals(FOUR + races_of_a(*results), 31, 32), [[0, 1891, 60], [0, 1008, 31]])

    def test_an_average_left_out(self):
        results = ("avg a", 1, 1, 2)
        self.assertEqual(self.totals(FOUR + ("out 4 2",) + races_of_a(*results), 3, 4), [[0, 3, 1], [0, 2, 1]])

    def test_64_boats_and_32_races(self):
        boats = tuple(f"boat b{number}" for number in range(64))
        self.assertEqual(tell(boats + ("race",) * 32, total(32, 0), total(32, 63)), [[0, 2080, 1]] * 2)


class Refusals(unittest.TestCase):
    LINES = ("boat a", "boat b", "out 1 1", "race", "place a 1 1", "race")

    def test_r_above_the_number_of_races(self):
        for call in (out, total):
            self.assertEqual(tell(self.LINES, call(3, 0), call(16383, 0)), [[-8], [-8]])
        self.assertEqual(tell(self.LINES, out(2, 0), total(2, 0)), [[1, 1], [0, 1, 1]])

    def test_no_such_boat(self):
        for call in (out, total):
            self.assertEqual(tell(self.LINES, call(2, 2), call(0, 2), call(1, 16383)), [[-4], [-4], [-4]])

    def test_the_races_are_asked_for_first(self):
        for call in (out, total):
            self.assertEqual(tell(self.LINES, call(3, 2), call(16383, 16383)), [[-8], [-8]])

    def test_a_new_object(self):
        for call in (out, total):
            self.assertEqual(ask(call(0, 0), call(1, 0)), [[-4], [-8]])

    def test_boats_without_races(self):
        self.assertEqual(tell(FOUR, out(0, 3), out(0, 4), out(1, 0), total(0, 3), total(0, 4), total(1, 0)),
                         [[0], [-4], [-8], [0, 0, 1], [-4], [-8]])


if __name__ == "__main__":
    unittest.main()
