"""A boat's points in a race, after r races."""

import unittest

from racetally.points import lowest_terms
from tests.helper import ask, more, points, take, text_of

FOUR = ("boat a", "boat b", "boat c", "boat d")


class Points(unittest.TestCase):
    def tell(self, lines, *asked):
        return ask(take(text_of(*lines)), *[points(*numbers) for numbers in asked])[1:]

    def one_race(self, *lines):
        """What boat a has in a single race with three others."""
        return self.tell(FOUR + ("race",) + lines, (1, 0, 0))[0]


class OneRace(Points):
    def test_a_place_of_her_own(self):
        for place in range(1, 5):
            self.assertEqual(self.one_race(f"place a {place} 1"), [0, place, 1])

    def test_a_shared_place(self):
        self.assertEqual(self.one_race("place a 1 2"), [0, 3, 2])
        self.assertEqual(self.one_race("place a 1 3"), [0, 2, 1])
        self.assertEqual(self.one_race("place a 1 4"), [0, 5, 2])
        self.assertEqual(self.one_race("place a 2 2"), [0, 5, 2])
        self.assertEqual(self.one_race("place a 2 3"), [0, 3, 1])
        self.assertEqual(self.one_race("place a 3 2"), [0, 7, 2])

    def test_miss_no_line_and_dis(self):
        self.assertEqual(self.one_race("miss a"), [0, 5, 1])
        self.assertEqual(self.one_race(), [0, 5, 1])
        self.assertEqual(self.one_race("place b 1 1"), [0, 5, 1])
        self.assertEqual(self.one_race("dis a"), [0, 5, 1])

    def test_a_pen_on_a_place(self):
        self.assertEqual(self.one_race("place a 1 1", "pen a 1"), [0, 2, 1])
        self.assertEqual(self.one_race("place a 1 1", "pen a 3"), [0, 4, 1])
        self.assertEqual(self.one_race("place a 1 1", "pen a 4"), [0, 5, 1])
        self.assertEqual(self.one_race("place a 1 1", "pen a 5"), [0, 5, 1])
        self.assertEqual(self.one_race("place a 1 1", "pen a 99"), [0, 5, 1])
        self.assertEqual(self.one_race("place a 4 1", "pen a 1"), [0, 5, 1])
        self.assertEqual(self.one_race("place a 4 1", "pen a 2"), [0, 5, 1])

    def test_a_pen_on_a_shared_place(self):
        self.assertEqual(self.one_race("place a 1 2", "pen a 1"), [0, 5, 2])
        self.assertEqual(self.one_race("place a 1 2", "pen a 3"), [0, 9, 2])
        self.assertEqual(self.one_race("place a 1 2", "pen a 4"), [0, 5, 1])

    def test_a_pen_on_a_miss(self):
        self.assertEqual(self.one_race("miss a", "pen a 1"), [0, 5, 1])
        self.assertEqual(self.one_race("miss a", "pen a 99"), [0, 5, 1])

    def test_a_pen_is_hers_alone(self):
        self.assertEqual(self.one_race("place a 1 1", "place b 2 1", "pen b 1"), [0, 1, 1])

    def test_avg_alone(self):
        self.assertEqual(self.one_race("avg a"), [0, 5, 1])

    def test_64_boats(self):
        boats = [f"boat b{number}" for number in range(64)]
        lines = boats + ["race", "place b0 1 64", "place b1 64 1", "place b2 63 2", "pen b2 1", "dis b63"]
        self.assertEqual(self.tell(lines, (1, 0, 0), (1, 1, 0), (1, 2, 0), (1, 3, 0), (1, 63, 0), (1, 64, 0)),
                         [[0, 65, 2], [0, 64, 1], [0, 129, 2], [0, 65, 1], [0, 65, 1], [-4]])

    def test_one_boat(self):
        self.assertEqual(self.tell(("boat a", "race", "place a 1 1", "race"), (2, 0, 0), (2, 0, 1)),
                         [[0, 1, 1], [0, 2, 1]])


class Average(Points):
    def test_of_the_other_races(self):
        lines = FOUR + ("race", "place a 1 1", "race", "avg a", "race", "place a 2 1")
        self.assertEqual(self.tell(lines, (2, 0, 1), (3, 0, 1)), [[0, 1, 1], [0, 3, 2]])

    def test_it_hangs_on_the_first_r_races_alone(self):
        lines = FOUR + ("race", "avg a", "race", "place a 1 1", "race", "place a 2 2", "race", "dis a")
        self.assertEqual(self.tell(lines, (1, 0, 0), (2, 0, 0), (3, 0, 0), (4, 0, 0)),
                         [[0, 5, 1], [0, 1, 1], [0, 7, 4], [0, 17, 6]])

    def test_other_averages_are_not_counted(self):
        lines = FOUR + ("race", "avg a", "race", "avg a", "race", "place a 2 1", "race", "avg a")
        self.assertEqual(self.tell(lines, (2, 0, 0), (2, 0, 1), (4, 0, 0), (4, 0, 1), (4, 0, 3)),
                         [[0, 5, 1], [0, 5, 1], [0, 2, 1], [0, 2, 1], [0, 2, 1]])

    def test_every_sort_of_race_is_counted(self):
        races = ("race", "avg a", "race", "place a 1 2", "race", "miss a", "race", "dis a", "race", "place a 1 1",
                 "pen a 2", "race", "place b 1 1")
        # 3/2 + 5 + 5 + 3 + 5 over 5
        self.assertEqual(self.tell(FOUR + races, (6, 0, 0)), [[0, 39, 10]])

    def test_with_a_pen_at_the_cap(self):
        lines = FOUR + ("race", "place a 1 1", "pen a 99", "race", "place a 1 1", "race", "avg a")
        self.assertEqual(self.tell(lines, (3, 0, 2)), [[0, 3, 1]])

    def test_another_boats_average(self):
        lines = FOUR + ("race", "avg b", "place a 1 1", "race", "avg a", "place b 3 1")
        self.assertEqual(self.tell(lines, (2, 0, 0), (2, 0, 1), (2, 1, 0), (2, 1, 1)),
                         [[0, 1, 1], [0, 1, 1], [0, 3, 1], [0, 3, 1]])

    def test_32_races(self):
        lines = FOUR + ("race", "avg a") + ("race", "place a 1 2") * 30 + ("race",)
        # 30 * 3/2 + 5 over 31
        self.assertEqual(self.tell(lines, (31, 0, 0), (32, 0, 0)), [[0, 3, 2], [0, 50, 31]])


class AfterRaces(Points):
    LINES = FOUR + ("race", "place a 1 1", "pen a 1", "place b 1 2", "avg c", "race", "place c 3 1", "avg b", "dis d")

    def test_what_is_told_hangs_on_the_first_races_alone(self):
        asked = [points(r, i, k) for r in range(3) for i in range(4) for k in range(r)]
        text = text_of(*self.LINES)
        first = ask(take(text), *asked)
        for behind in ("race\n", "race\nplace a 4 1\navg b\ndis c\n", "race\nmiss c\nrace\navg a\n"):
            self.assertEqual(ask(take(text + behind), *asked), first)
            self.assertEqual(ask(take(text), more(behind), *asked)[1:], first)

    def test_only_averages_change_with_r(self):
        lines = self.LINES + ("race", "place c 1 1", "place b 1 1", "place a 1 1", "place d 1 1")
        self.assertEqual(self.tell(lines, (1, 0, 0), (2, 0, 0), (3, 0, 0)), [[0, 2, 1]] * 3)
        self.assertEqual(self.tell(lines, (1, 1, 0), (2, 1, 0), (3, 1, 0)), [[0, 3, 2]] * 3)
        self.assertEqual(self.tell(lines, (1, 2, 0), (2, 2, 0), (3, 2, 0)), [[0, 5, 1], [0, 3, 1], [0, 2, 1]])
        self.assertEqual(self.tell(lines, (2, 1, 1), (3, 1, 1)), [[0, 3, 2], [0, 5, 4]])


class Refusals(Points):
    LINES = ("boat a", "boat b", "race", "place a 1 1", "race")

    def test_r_above_the_number_of_races(self):
        self.assertEqual(self.tell(self.LINES, (3, 0, 0), (16383, 0, 0)), [[-8], [-8]])

    def test_no_such_boat(self):
        self.assertEqual(self.tell(self.LINES, (2, 1, 0), (2, 2, 0), (2, 16383, 0)), [[0, 3, 1], [-4], [-4]])

    def test_a_race_that_is_not_looked_at(self):
        self.assertEqual(self.tell(self.LINES, (0, 0, 0), (1, 0, 0), (1, 0, 1), (2, 0, 1), (2, 0, 2), (2, 0, 16383)),
                         [[-4], [0, 1, 1], [-4], [0, 3, 1], [-4], [-4]])

    def test_the_races_are_asked_for_first(self):
        self.assertEqual(self.tell(self.LINES, (3, 2, 0), (3, 0, 3), (3, 9, 9), (2, 9, 9)), [[-8], [-8], [-8], [-4]])

    def test_a_new_object(self):
        self.assertEqual(ask(points(0, 0, 0), points(1, 0, 0)), [[-4], [-8]])

    def test_boats_without_races(self):
        self.assertEqual(self.tell(FOUR, (0, 0, 0), (1, 0, 0)), [[-4], [-8]])


class LowestTerms(unittest.TestCase):
    def test_fractions(self):
        for top, bottom, lowest in ((0, 1, (0, 1)), (0, 7, (0, 1)), (6, 4, (3, 2)), (4, 2, (2, 1)), (7, 7, (1, 1)),
                                    (2, 3, (2, 3)), (130, 62, (65, 31))):
            self.assertEqual(lowest_terms(top, bottom), lowest)


if __name__ == "__main__":
    unittest.main()
