"""Lists as long as they may be, on a series as large as it may be, are answered within seconds."""

import random
import time
import unittest

from racetally.desk import answers
from tests.helper import SIZES, TEXT, ask, before, in_pieces, more, order, out, place, points, text_of, total

BOATS = 64
RACES = 32
MOST_SECONDS = 10
MOST_CALLS = 300
MOST_NUMBERS = 69900


def largest_text(name_length=3):
    """64 boats, 32 races, outs for some of them, and every sort of result."""
    chance = random.Random(64)
    names = [f"b{number:0{name_length - 1}}" for number in range(BOATS)]
    lines = [f"boat {name}" for name in names] + [f"out {r} {r - 1}" for r in range(1, 33)]
    for race in range(RACES):
        lines.append("race")
        for number, name in enumerate(chance.sample(names, BOATS)):
            word = chance.choice(["place"] * 7 + ["avg", "dis", ""])
            if word == "place":
                lines.append(f"place {name} {number + 1} {chance.randint(1, BOATS - number)}")
                if chance.random() < 0.1:
                    lines.append(f"pen {name} {chance.randint(1, 99)}")
            elif word:
                lines.append(f"{word} {name}")
    return text_of(*lines)


class LongLists(unittest.TestCase):
    def told(self, *calls):
        """The answers; the list is within the limits, stays as it was, and answers the same a second time."""
        numbers = [number for call in calls for number in call]
        self.assertLessEqual(len(numbers), MOST_NUMBERS)
        self.assertLessEqual(len(calls), MOST_CALLS)
        kept = list(numbers)
        start = time.perf_counter()
        first = answers(numbers)
        self.assertLess(time.perf_counter() - start, MOST_SECONDS)
        self.assertEqual(numbers, kept)
        self.assertEqual(answers(numbers), first)
        return ask(*calls)

    def test_300_calls_of_each_sort(self):
        pieces = in_pieces(largest_text())
        rest = MOST_CALLS - len(pieces)
        for call in (points(RACES, BOATS - 1, RACES - 1), out(RACES, 5), total(RACES, 5), before(RACES, 5, 6),
                     place(RACES, 5), order(RACES)):
            told = self.told(*pieces, *[call] * rest)
            self.assertEqual(told[:len(pieces)], [[0]] * len(pieces))
            self.assertEqual(told[len(pieces):], [told[-1]] * rest)
            self.assertGreater(len(told[-1]), 1)

    def test_the_orders_and_places_agree(self):
        pieces = in_pieces(largest_text())
        told = self.told(*pieces, SIZES, order(RACES), *[place(RACES, boat) for boat in range(BOATS)],
                         *[before(RACES, boat, boat + 1) for boat in range(BOATS - 1)])
        self.assertEqual(told[len(pieces)], [0, BOATS, 32, RACES])
        standing = told[len(pieces) + 1][1:]
        self.assertEqual(sorted(standing), list(range(BOATS)))
        places = [row[1] for row in told[len(pieces) + 2:len(pieces) + 2 + BOATS]]
        self.assertEqual(standing, sorted(range(BOATS), key=lambda boat: (places[boat], boat)))
        for boat, answer in enumerate(told[len(pieces) + 2 + BOATS:]):
            difference = places[boat + 1] - places[boat]
            self.assertEqual(answer[0], 1 if difference > 0 else 2 if difference < 0 else 0)

    def test_a_list_near_69900_numbers(self):
        pieces = in_pieces(largest_text(12))
        calls = list(pieces)
        while len(calls) < MOST_CALLS - 10 and sum(map(len, calls)) < MOST_NUMBERS - 16400:
            calls += [more("x" * 300), order(RACES), place(RACES, len(calls) % BOATS), TEXT]
        short = MOST_NUMBERS - sum(map(len, calls)) - 2 - len(order(RACES))
        calls += [more("\n" * min(short, 16383)), order(RACES)]
        self.assertGreater(sum(map(len, calls)), MOST_NUMBERS - 2000)
        told = self.told(*calls)
        self.assertEqual(told[:len(pieces)], [[0]] * len(pieces))
        self.assertIn(told[-2][0], (-2, -6))
        self.assertEqual(told[-1], told[len(pieces) + 1])


if __name__ == "__main__":
    unittest.main()
