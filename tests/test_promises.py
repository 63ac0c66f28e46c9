"""What is promised over the whole program, asked of made series through the calls alone."""

import itertools
import unittest
from fractions import Fraction

from tests.helper import SIZES, TEXT, Maker, ask, before, order, out, place, points, take, tell, text_of, total

SEEDS = range(120)


def made_series():
    """The lines of many series, of both makes."""
    for seed in SEEDS:
        yield Maker(seed).series()
        yield Maker(seed).close_series()


def count_of(lines, word):
    return sum(line.split()[0] == word for line in lines)


def cut_behind(lines, r):
    """The lines up to the end of the first r races."""
    starts = [at for at, line in enumerate(lines) if line == "race"] + [len(lines)]
    return lines[:starts[r]]


def all_calls(lines, r):
    """Every call that is granted after r races."""
    boats = range(count_of(lines, "boat"))
    calls = [order(r)]
    for i in boats:
        calls += [out(r, i), total(r, i), place(r, i)]
        calls += [points(r, i, k) for k in range(r)]
        calls += [before(r, i, j) for j in boats]
    return calls


def points_table(lines, r):
    """Each boat's points in each race, as told."""
    boats = range(count_of(lines, "boat"))
    told = iter(tell(lines, *[points(r, i, k) for i in boats for k in range(r)]))
    return [[Fraction(*next(told)[1:]) for k in range(r)] for i in boats]


def disqualified(lines, r, i):
    """In which of the first r races boat i has a dis line."""
    race = -1
    found = []
    for line in cut_behind(lines, r):
        race += line == "race"
        if line == f"dis b{i}":
            found.append(race)
    return found


def befores(lines, r):
    """Which of each two boats stands before."""
    pairs = list(itertools.product(range(count_of(lines, "boat")), repeat=2))
    return {pair: answer[0] for pair, answer in zip(pairs, tell(lines, *[before(r, i, j) for i, j in pairs]))}


class OneSeries(unittest.TestCase):
    def test_the_told_text_is_taken_as_the_same_series(self):
        for lines in made_series():
            asked = [SIZES, TEXT] + all_calls(lines, count_of(lines, "race"))
            first = tell(lines, *asked)
            again = ask(take(first[1][1:]), *asked)
            self.assertEqual(again, [[0]] + first, lines)

    def test_a_text_with_a_fault_is_no_series(self):
        for lines in made_series():
            text = text_of(*lines)
            for fault, why in (("x", 1), ("boat", 1), ("out 1", 1), ("miss zz", 3)):
                told = ask(take(text + fault + "\n"), order(0), SIZES, TEXT)
                self.assertEqual(told, [[-6, len(lines), why], [0], [0, 0, 0, 0], [0]])


class Standing(unittest.TestCase):
    def test_who_has_no_more_points_does_not_stand_behind(self):
        met = {}
        for lines in made_series():
            r = count_of(lines, "race")
            table = points_table(lines, r)
            for (i, j), answer in befores(lines, r).items():
                if disqualified(lines, r, i) or disqualified(lines, r, j):
                    continue
                if all(one <= other for one, other in zip(table[i], table[j])):
                    self.assertNotEqual(answer, 2, lines)
                    met[answer, table[i] == table[j]] = True
        self.assertEqual(sorted(met), [(0, True), (1, False)])

    def test_standing_before_goes_on_from_one_to_a_third(self):
        met = {}
        for lines in made_series():
            who = befores(lines, count_of(lines, "race"))
            for i, j, k in itertools.product(range(count_of(lines, "boat")), repeat=3):
                if who[i, j] != 2 and who[j, k] != 2:
                    self.assertEqual(who[i, k], 1 if 1 in (who[i, j], who[j, k]) else 0, lines)
                    met[who[i, j], who[j, k]] = True
        self.assertEqual(sorted(met), [(0, 0), (0, 1), (1, 0), (1, 1)])

    def test_it_is_the_same_from_both_sides(self):
        for lines in made_series():
            who = befores(lines, count_of(lines, "race"))
            for i, j in who:
                self.assertEqual(who[j, i], {0: 0, 1: 2, 2: 1}[who[i, j]], lines)


class LeftOut(unittest.TestCase):
    def test_no_other_choice_of_as_many_makes_a_total_less(self):
        met = {}
        for lines in made_series():
            r = count_of(lines, "race")
            for i, row in enumerate(points_table(lines, r)):
                left, told = tell(lines, out(r, i), total(r, i))
                dis = disqualified(lines, r, i)
                self.assertFalse(set(left[1:]) & set(dis), lines)
                may_be = [k for k in range(r) if k not in dis]
                choices = [sum(row) - sum(row[k] for k in choice) for choice in itertools.combinations(may_be, left[0])]
                self.assertEqual(Fraction(*told[1:]), min(choices), lines)
                met[left[0]] = True
        self.assertEqual(sorted(met), list(range(7)))


class FirstRaces(unittest.TestCase):
    def test_what_is_told_hangs_on_the_first_r_races_alone(self):
        for lines in made_series():
            for r in range(count_of(lines, "race") + 1):
                asked = all_calls(lines, r)
                self.assertEqual(tell(lines, *asked), tell(cut_behind(lines, r), *asked), (lines, r))


class Row(unittest.TestCase):
    def test_places_and_shared_are_a_row(self):
        for lines in made_series():
            boats = range(count_of(lines, "boat"))
            for r in range(count_of(lines, "race") + 1):
                told = tell(lines, order(r), *[place(r, i) for i in boats])
                self.assertEqual(sorted(told[0][1:]), list(boats))
                standing = [(told[1 + i][1], i, told[1 + i][2]) for i in told[0][1:]]
                # The order goes by places, and by number within one.
                self.assertEqual(standing, sorted(standing), lines)
                due = 1
                while standing:
                    shared = standing[0][2]
                    self.assertEqual([(row[0], row[2]) for row in standing[:shared]], [(due, shared)] * shared, lines)
                    standing = standing[shared:]
                    due += shared

    def test_places_are_how_many_stand_before(self):
        for lines in made_series():
            r = count_of(lines, "race")
            who = befores(lines, r)
            boats = range(count_of(lines, "boat"))
            told = tell(lines, *[place(r, i) for i in boats])
            for i in boats:
                met = [who[i, j] for j in boats]
                self.assertEqual(told[i], [0, 1 + met.count(2), met.count(0)], lines)


if __name__ == "__main__":
    unittest.main()
