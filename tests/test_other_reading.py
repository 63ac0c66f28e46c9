"""Made texts, told by the program and by a second reading of the document that is written otherwise."""

import re
import unittest
from fractions import Fraction
from functools import cache

from tests.helper import SIZES, TEXT, Maker, ask, before, codes, more, order, out, place, points, take, text_of, total

NAME = "([a-z0-9]{1,12})"
NUMBER = "(0|[1-9][0-9]*)"
FORMS = {
    "boat": (f"boat {NAME}", ()),
    "out": (f"out {NUMBER} {NUMBER}", (range(1, 33), range(0, 32))),
    "race": ("race", ()),
    "place": (f"place {NAME} {NUMBER} {NUMBER}", (range(1, 65), range(1, 65))),
    "miss": (f"miss {NAME}", ()),
    "dis": (f"dis {NAME}", ()),
    "avg": (f"avg {NAME}", ()),
    "pen": (f"pen {NAME} {NUMBER}", (range(1, 100),)),
}


def formed(line):
    for word, (form, limits) in FORMS.items():
        found = re.fullmatch(form, line)
        if found:
            parts = list(found.groups())
            numbers = [int(part) for part in parts[len(parts) - len(limits):]]
            if all(number in limit for number, limit in zip(numbers, limits)):
                return tuple([word] + parts[:len(parts) - len(limits)] + numbers)
    return None


def reasons(before, line):
    """All the reasons that hold of a formed line, the lines before it being right."""
    boats = [row[1] for row in before if row[0] == "boat"]
    outs = [row for row in before if row[0] == "out"]
    races = sum(row[0] == "race" for row in before)
    start = max([at for at, row in enumerate(before) if row[0] == "race"], default=0)
    if line[0] == "boat":
        return [(3, any(row[0] != "boat" for row in before)), (4, line[1] in boats), (2, len(boats) == 64)]
    if line[0] == "out":
        return [(3, not boats or races > 0), (4, bool(outs) and not (line[1] > outs[-1][1] and line[2] >= outs[-1][2])),
                (2, len(outs) == 32)]
    if line[0] == "race":
        return [(3, not boats), (2, races == 32)]
    hers = [row[0] for row in before[start:] if races and row[0] not in ("boat", "out", "race") and row[1] == line[1]]
    lost = races == 0 or line[1] not in boats
    if line[0] == "pen":
        return [(3, lost or not ("place" in hers or "miss" in hers)), (4, "pen" in hers)]
    beyond = line[0] == "place" and line[2] + line[3] - 1 > len(boats)
    return [(3, lost), (4, beyond or any(word != "pen" for word in hers))]


def reading(text):
    """The series' lines and no fault, or no lines and the fault."""
    rows = text.split("\n")
    before = []
    for number, row in enumerate(rows[:-1]):
        line = formed(row)
        if line is None:
            return None, [number, 1]
        for why, holds in reasons(before, line):
            if holds:
                return None, [number, why]
        before.append(line)
    if rows[-1]:
        return None, [len(rows) - 1, 1]
    return tuple(before), None


@cache
def plain_points(lines, r, i, k):
    """Points as Python's fractions, each race read anew; None where the race is avg."""
    boats = [row[1] for row in lines if row[0] == "boat"]
    starts = [at for at, row in enumerate(lines) if row[0] == "race"] + [len(lines)]
    worst = Fraction(len(boats) + 1)

    def one(race):
        hers = {row[0]: row[2:] for row in lines[starts[race] + 1:starts[race + 1]] if row[1] == boats[i]}
        if "avg" in hers:
            return None
        if "place" not in hers:
            return worst
        own = hers["place"][0] + Fraction(hers["place"][1] - 1, 2)
        return min(worst, own + hers["pen"][0]) if "pen" in hers else own

    if one(k) is not None:
        return one(k)
    others = [one(race) for race in range(r) if one(race) is not None]
    return sum(others) / len(others) if others else worst


def all_points(lines, r, i):
    return [plain_points(lines, r, i, k) for k in range(r)]


@cache
def plain_out(lines, r, i):
    """The races left out, taken one by one from those that may still be."""
    name = [row[1] for row in lines if row[0] == "boat"][i]
    race = -1
    may_be = dict(enumerate(all_points(lines, r, i)))
    for row in lines:
        race += row[0] == "race"
        if row == ("dis", name):
            may_be.pop(race, None)
    left = []
    for turn in range(([0] + [row[2] for row in lines if row[0] == "out" and row[1] <= r])[-1]):
        worst = [race for race in may_be if may_be[race] == max(may_be.values())]
        if worst:
            left.append(min(worst))
            may_be.pop(min(worst))
    return sorted(left)


def plain_total(lines, r, i):
    return sum(all_points(lines, r, i)) - sum(plain_points(lines, r, i, k) for k in plain_out(lines, r, i))


@cache
def plain_before(lines, r, i, j):
    def kept(boat):
        return sorted(plain_points(lines, r, boat, k) for k in set(range(r)) - set(plain_out(lines, r, boat)))

    pairs = [(1, plain_total(lines, r, i), plain_total(lines, r, j))]
    pairs += [(2, one, other) for one, other in zip(kept(i), kept(j))]
    pairs += [(3, plain_points(lines, r, i, k), plain_points(lines, r, j, k)) for k in reversed(range(r))]
    for rule, one, other in pairs:
        if one != other:
            return [1 if one < other else 2, rule]
    return [0, 0]


def plain_place(lines, r, i):
    met = [plain_before(lines, r, i, j)[0] for j in range(sum(row[0] == "boat" for row in lines))]
    return [1 + met.count(2), met.count(0)]


def told(lines, call):
    """What the document asks as the answer to a call from points to order."""
    boats = sum(row[0] == "boat" for row in lines)
    sort, r, rest = call[0], call[1], call[2:]
    if r > sum(row[0] == "race" for row in lines):
        return [-8]
    if sort == 9:
        return [boats] + sorted(range(boats), key=lambda boat: (plain_place(lines, r, boat), boat))
    if any(boat >= boats for boat in (rest[:1] if sort == 4 else rest)) or (sort == 4 and rest[1] >= r):
        return [-4]
    if sort == 5:
        return [len(plain_out(lines, r, *rest))] + plain_out(lines, r, *rest)
    if sort == 7:
        return plain_before(lines, r, *rest)
    if sort == 8:
        return [0] + plain_place(lines, r, *rest)
    own = Fraction(plain_points(lines, r, *rest) if sort == 4 else plain_total(lines, r, *rest))
    return [0, own.numerator, own.denominator]


class OtherReading(unittest.TestCase):
    def test_made_texts(self):
        met = {}
        for seed in range(3000):
            maker = Maker(seed)
            text = maker.slip(maker.series())
            cut = maker.chance.randint(0, len(text))
            held, calls, expected = [], [], []
            for sort, piece in ((take, text), (take, text[:cut]), (more, text[cut:]), (more, "race\n")):
                whole = piece if sort is take else "".join(held) + piece
                lines, fault = reading(whole)
                calls.append(sort(piece))
                expected.append([0] if fault is None else [-6] + fault)
                met[tuple(fault[1:]) if fault else "right"] = True
                held = held if fault else [whole]
                kept = reading("".join(held))[0]
                calls += [TEXT, SIZES]
                expected.append([len("".join(held))] + codes("".join(held)))
                expected.append([0] + [sum(row[0] == word for row in kept) for word in ("boat", "out", "race")])
                for turn in range(6):
                    r, i, j = maker.chance.randint(0, 7), maker.chance.randint(0, 6), maker.chance.randint(0, 6)
                    asked = maker.chance.choice([points(r, i, j), out(r, i), total(r, i), before(r, i, j), place(r, i),
                                                 order(r)])
                    calls.append(asked)
                    expected.append(told(kept, asked))
            self.assertEqual(ask(*calls), expected, (seed, text))
        self.assertEqual(sorted(map(str, met)), ["(1,)", "(3,)", "(4,)", "right"])

    def every_call(self, seed, *made):
        for text in (text_of(*Maker(seed).series()), text_of(*Maker(seed).close_series())):
            lines = reading(text)[0]
            self.assertEqual(ask(take(text), *made), [[0]] + [told(lines, call) for call in made], (seed, text))

    def test_points_of_made_series(self):
        for seed in range(300):
            self.every_call(seed, *[points(r, i, k) for r in range(7) for i in range(6) for k in range(7)][:290])

    def test_out_and_total_of_made_series(self):
        for seed in range(300):
            self.every_call(seed, *[call(r, i) for r in range(8) for i in range(7) for call in (out, total)])

    def test_standing_of_made_series(self):
        for seed in range(150):
            self.every_call(seed, *[before(r, i, j) for r in range(2, 7) for i in range(5) for j in range(i + 1)])
            self.every_call(seed, *[order(r) for r in range(8)], *[place(r, i) for r in range(3, 7) for i in range(6)])

    def test_made_series_meet_every_rule(self):
        met = {}
        for seed in range(150):
            text = text_of(*Maker(seed).close_series())
            for call in [before(r, i, i + 1) for r in range(7) for i in range(5)]:
                met[tuple(ask(take(text), call)[1])] = True
        self.assertEqual(sorted(met), [(-8,), (-4,), (0, 0), (1, 1), (1, 2), (1, 3), (2, 1), (2, 2), (2, 3)])


if __name__ == "__main__":
    unittest.main()
