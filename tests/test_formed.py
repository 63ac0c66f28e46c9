"""How each sort of line is formed, and that one which isn't is the fault, with why 1."""

import unittest

from tests.helper import NOT_FORMED, SIZES, ask, codes, take, taken, text_of

TWO = ("boat a", "boat b")
RACE = TWO + ("race",)
BOATS_64 = tuple(f"boat b{number}" for number in range(64))


class Formed(unittest.TestCase):
    def right(self, before, line):
        self.assertEqual(taken(*before, line), [0], line)

    def wrong(self, before, line):
        self.assertEqual(taken(*before, line), [-6, len(before), NOT_FORMED], line)

    def test_boat(self):
        for name in ("a", "z", "0", "9", "007", "boat", "a1b2c3d4e5f6", "999999999999"):
            self.right((), "boat " + name)
        for line in ("boat", "boat ", "boat  a", " boat a", "boat a ", "boat a b", "boat a 1", "boats a", "boata",
                     "Boat a", "boat A", "boat a-b", "boat a_b", "boat \xe4", "boat a\t", "boat\ta", "boat a\r",
                     "boat a\x00", "boat `", "boat {", "boat /", "boat :", "boat abcdefghijklm", "boa a", "a"):
            self.wrong((), line)

    def test_out(self):
        for line in ("out 1 0", "out 32 31", "out 1 31", "out 32 0", "out 10 9", "out 9 10"):
            self.right(TWO, line)
        for line in ("out", "out ", "out 1", "out 1 ", "out 0 0", "out 33 0", "out 1 32", "out 1 99", "out 01 0",
                     "out 1 00", "out 1 01", "out 1  0", "out  1 0", "out 1 0 ", "out 1 0 0", "out a 0", "out 1 a",
                     "out -1 0", "out 1 -1", "out +1 0", "out 1a 0", "out 100 0", "out 1 100", "out 4294967297 0"):
            self.wrong(TWO, line)

    def test_race(self):
        self.right(TWO, "race")
        for line in ("race ", " race", "race 0", "race a", "races", "rac", "Race"):
            self.wrong(TWO, line)

    def test_place(self):
        for line in ("place a 1 1", "place b 2 1", "place a 1 2"):
            self.right(RACE, line)
        for line in ("place", "place a", "place a 1", "place a 1 ", "place a 0 1", "place a 1 0", "place a 01 1",
                     "place a 1 01", "place a  1 1", "place  a 1 1", "place a 1  1", "place a 1 1 ", "place a 1 1 1",
                     "place 1 1", "place a a 1", "place a 1 a", "place a 65 1", "place a 1 65", "place a 100 1",
                     "place abcdefghijklm 1 1", "place  1 1"):
            self.wrong(RACE, line)

    def test_place_at_its_limits(self):
        before = BOATS_64 + ("race",)
        for line in ("place b0 64 1", "place b0 1 64"):
            self.right(before, line)
        for line in ("place b0 65 1", "place b0 1 65"):
            self.wrong(before, line)

    def test_miss_dis_avg(self):
        for word in ("miss", "dis", "avg"):
            self.right(RACE, word + " a")
            for line in (word, word + " ", word + "  a", word + " a ", word + " a 1", word + " a b", word + "a",
                         " " + word + " a", word + " A", word + " abcdefghijklm", word.upper() + " a"):
                self.wrong(RACE, line)

    def test_pen(self):
        before = RACE + ("place a 1 1",)
        for line in ("pen a 1", "pen a 10", "pen a 99"):
            self.right(before, line)
        for line in ("pen", "pen a", "pen a ", "pen a 0", "pen a 100", "pen a 01", "pen a 00", "pen  a 1", "pen a  1",
                     "pen a 1 ", "pen a 1 1", "pen a a", "pen a -1", "pen 1", "pen abcdefghijklm 1", " pen a 1"):
            self.wrong(before, line)

    def test_names_of_12_signs_in_every_sort(self):
        name = "abcdefghij90"
        self.assertEqual(taken("boat " + name, "boat b", "race", f"place {name} 1 1", f"pen {name} 1", "race",
                               "miss " + name, "race", "dis " + name, "race", "avg " + name), [0])

    def test_an_empty_line(self):
        self.wrong((), "")
        self.wrong((), " ")
        self.wrong(RACE, "")

    def test_without_its_line_feed(self):
        for before, line in (((), "boat a"), (TWO, "out 1 0"), (TWO, "race"), (RACE, "place a 1 1"),
                             (RACE, "miss a"), (RACE, "dis a"), (RACE, "avg a"), (RACE, " "),
                             (RACE + ("miss a",), "pen a 1")):
            self.assertEqual(ask(take(text_of(*before) + line)), [[-6, len(before), NOT_FORMED]], line)

    def test_other_row_ends(self):
        self.assertEqual(ask(take("boat a\r\n")), [[-6, 0, NOT_FORMED]])
        self.assertEqual(ask(take("boat a\x0bboat b\n")), [[-6, 0, NOT_FORMED]])

    def test_every_code_in_a_name(self):
        allowed = codes("abcdefghijklmnopqrstuvwxyz0123456789")
        for code in range(256):
            if code != 10:
                told = ask(take(codes("boat a") + [code] + codes("b\n")))[0]
                self.assertEqual(told, [0] if code in allowed else [-6, 0, NOT_FORMED], code)

    def test_very_long_lines(self):
        for line in ("boat " + "a" * 16000, "out " + "1" * 16000 + " 0", " " * 16000, "a" * 16000):
            self.wrong(TWO, line)

    def test_every_number_at_every_limit(self):
        for number in range(130):
            for before, line, least, most in ((TWO, "out {} 31", 1, 32), (TWO, "out 32 {}", 0, 31),
                                              (BOATS_64 + ("race",), "place b1 {} 1", 1, 64),
                                              (BOATS_64 + ("race",), "place b1 1 {}", 1, 64),
                                              (RACE + ("miss b",), "pen b {}", 1, 99)):
                if least <= number <= most:
                    self.right(before, line.format(number))
                else:
                    self.wrong(before, line.format(number))


class NoLine(unittest.TestCase):
    def test_a_text_without_a_line_is_a_series(self):
        self.assertEqual(ask(take(""), SIZES), [[0], [0, 0, 0, 0]])


if __name__ == "__main__":
    unittest.main()
