"""Why a formed line is wrong where it stands, and which fault is told where there are several."""

import unittest

from tests.helper import (CANT_STAND, CLASHES, NOT_FORMED, SIZES, TOO_MUCH, ask, in_pieces, more, take, taken,
                          text_of)

TWO = ("boat a", "boat b")
RACE = TWO + ("race",)
BOATS_64 = tuple(f"boat b{number}" for number in range(64))
OUTS_32 = tuple(f"out {number} {number - 1}" for number in range(1, 33))
RACES_32 = ("race",) * 32


class Faults(unittest.TestCase):
    def right(self, *lines):
        self.assertEqual(taken(*lines), [0], lines)

    def wrong(self, why, *lines):
        """The last of the lines is the fault."""
        self.assertEqual(taken(*lines), [-6, len(lines) - 1, why], lines)


class CantStand(Faults):
    def test_a_boat_behind_another_sort(self):
        self.wrong(CANT_STAND, *TWO, "out 1 0", "boat c")
        self.wrong(CANT_STAND, *RACE, "boat c")
        self.wrong(CANT_STAND, *RACE, "place a 1 1", "boat c")

    def test_an_out(self):
        self.wrong(CANT_STAND, "out 1 0")
        self.wrong(CANT_STAND, *RACE, "out 1 0")
        self.wrong(CANT_STAND, *TWO, "out 1 0", "race", "out 2 0")
        self.right(*TWO, "out 1 0", "out 2 0", "race")

    def test_a_race_before_any_boat(self):
        self.wrong(CANT_STAND, "race")
        self.right("boat a", "race")
        self.right("boat a", "race", "race")

    def test_another_line_before_any_race(self):
        for line in ("place a 1 1", "miss a", "dis a", "avg a", "pen a 1"):
            self.wrong(CANT_STAND, line)
            self.wrong(CANT_STAND, *TWO, line)
            self.wrong(CANT_STAND, *TWO, "out 1 0", line)

    def test_a_line_of_a_boat_that_is_none(self):
        for line in ("place c 1 1", "miss c", "dis c", "avg c", "pen c 1"):
            self.wrong(CANT_STAND, *RACE, line)

    def test_a_pen_needs_a_place_or_miss_before_it_in_this_race(self):
        self.right(*RACE, "place a 1 1", "pen a 1")
        self.right(*RACE, "miss a", "pen a 1")
        self.right(*RACE, "miss a", "place b 1 1", "pen a 1")
        self.wrong(CANT_STAND, *RACE, "pen a 1")
        self.wrong(CANT_STAND, *RACE, "dis a", "pen a 1")
        self.wrong(CANT_STAND, *RACE, "avg a", "pen a 1")
        self.wrong(CANT_STAND, *RACE, "place b 1 1", "pen a 1")
        self.wrong(CANT_STAND, *RACE, "place a 1 1", "race", "pen a 1")
        self.wrong(CANT_STAND, *RACE, "miss a", "pen a 1", "race", "pen a 1")


class Clashes(Faults):
    def test_a_boat_twice(self):
        self.wrong(CLASHES, "boat a", "boat a")
        self.wrong(CLASHES, *TWO, "boat a")
        self.right("boat a", "boat aa", "boat 0", "boat 00")

    def test_outs_rise(self):
        self.wrong(CLASHES, *TWO, "out 3 1", "out 3 1")
        self.wrong(CLASHES, *TWO, "out 3 1", "out 2 1")
        self.wrong(CLASHES, *TWO, "out 3 1", "out 3 2")
        self.wrong(CLASHES, *TWO, "out 3 1", "out 4 0")
        self.wrong(CLASHES, *TWO, "out 1 0", "out 3 2", "out 4 1")
        self.wrong(CLASHES, *TWO, "out 1 0", "out 3 2", "out 2 2")
        self.right(*TWO, "out 3 1", "out 4 1")
        self.right(*TWO, "out 3 1", "out 4 2")
        self.right(*TWO, "out 1 31")

    def test_a_second_result_of_a_boat_in_a_race(self):
        results = ("place a 1 1", "place a 2 1", "miss a", "dis a", "avg a")
        for first in results:
            for second in results:
                self.wrong(CLASHES, *RACE, first, second)
                self.wrong(CLASHES, *RACE, first, "place b 1 1", second)
                self.right(*RACE, first, "race", second)
                self.right(*RACE, first, second.replace(" a", " b"))

    def test_a_result_behind_a_pen(self):
        self.wrong(CLASHES, *RACE, "place a 1 1", "pen a 1", "miss a")
        self.wrong(CLASHES, *RACE, "miss a", "pen a 1", "dis a")

    def test_a_second_pen(self):
        self.wrong(CLASHES, *RACE, "place a 1 1", "pen a 1", "pen a 1")
        self.wrong(CLASHES, *RACE, "miss a", "pen a 1", "pen a 2")
        self.right(*RACE, "miss a", "place b 1 1", "pen a 1", "pen b 1", "race", "miss a", "pen a 1")

    def test_a_place_beyond_the_boats(self):
        self.right(*RACE, "place a 2 1")
        self.right(*RACE, "place a 1 2")
        self.wrong(CLASHES, *RACE, "place a 3 1")
        self.wrong(CLASHES, *RACE, "place a 2 2")
        self.wrong(CLASHES, *RACE, "place a 1 3")
        self.wrong(CLASHES, *RACE, "place a 64 64")
        self.right(*BOATS_64, "race", "place b0 32 33")
        self.wrong(CLASHES, *BOATS_64, "race", "place b0 33 33")

    def test_two_boats_may_have_one_place(self):
        self.right(*RACE, "place a 1 1", "place b 1 1")


class TooMuch(Faults):
    def test_the_65th_boat(self):
        self.right(*BOATS_64)
        self.wrong(TOO_MUCH, *BOATS_64, "boat c")

    def test_the_33rd_race(self):
        self.right("boat a", *RACES_32)
        self.wrong(TOO_MUCH, "boat a", *RACES_32, "race")
        self.wrong(TOO_MUCH, *TWO, *(("race", "miss a") * 32), "race")

    def test_the_33rd_out_always_clashes_too(self):
        self.right("boat a", *OUTS_32)
        for line in ("out 32 31", "out 1 0", "out 32 30"):
            self.wrong(CLASHES, "boat a", *OUTS_32, line)
        self.wrong(NOT_FORMED, "boat a", *OUTS_32, "out 33 31")


class WhichFault(Faults):
    def test_not_formed_goes_before_all(self):
        self.wrong(NOT_FORMED, *RACE, "boat A")
        self.wrong(NOT_FORMED, "race ")
        self.wrong(NOT_FORMED, "boat a", "boat a ")
        self.wrong(NOT_FORMED, *BOATS_64, "boat c ")
        self.wrong(NOT_FORMED, *RACE, "place c 65 1")
        self.assertEqual(ask(take("boat a\nboat a")), [[-6, 1, NOT_FORMED]])
        self.assertEqual(ask(take("race")), [[-6, 0, NOT_FORMED]])

    def test_cant_stand_goes_before_clashes(self):
        self.wrong(CANT_STAND, *RACE, "boat a")
        self.wrong(CANT_STAND, *TWO, "out 2 1", "boat a")
        self.wrong(CANT_STAND, *TWO, "out 2 1", "race", "out 2 0")
        self.wrong(CANT_STAND, *RACE, "place c 3 1")
        self.wrong(CANT_STAND, *TWO, "place a 3 1")

    def test_cant_stand_goes_before_too_much(self):
        self.wrong(CANT_STAND, *BOATS_64, "race", "boat c")
        self.wrong(CANT_STAND, "boat a", *OUTS_32, "race", "out 32 31")

    def test_clashes_goes_before_too_much(self):
        self.wrong(CLASHES, *BOATS_64, "boat b63")
        self.wrong(CLASHES, "boat a", *OUTS_32, "out 32 31")

    def test_all_three_at_once(self):
        self.wrong(CANT_STAND, *BOATS_64, "race", "boat b0")

    def test_the_first_wrong_line_is_told(self):
        self.assertEqual(taken("boat a", "boat a", "x", "race"), [-6, 1, CLASHES])
        self.assertEqual(taken("boat a", "race", "miss b", "boat a", ""), [-6, 2, CANT_STAND])
        self.assertEqual(ask(take("boat a\nmiss a\nrace")), [[-6, 1, CANT_STAND]])

    def test_the_line_of_a_long_text(self):
        lines = list(BOATS_64)
        for race in range(32):
            lines += ["race"] + [f"miss b{number}" for number in range(64)]
        calls = in_pieces(text_of(*lines)) + [more("race\n"), more("miss b0\n"), SIZES]
        told = ask(*calls)
        self.assertEqual(told[-3:], [[-6, len(lines), TOO_MUCH], [-6, len(lines), CLASHES], [0, 64, 0, 32]])
        self.assertEqual(told[:-3], [[0]] * (len(calls) - 3))


if __name__ == "__main__":
    unittest.main()
