"""Made texts, told by the program and by a second reading of the document that is written otherwise."""

import random
import re
import unittest
from fractions import Fraction

from tests.helper import SIZES, TEXT, ask, codes, more, points, take

NAME = "([a-z0-9]{1,12})"
NUMBER = "(0|[1-9][0-9]*)"
FORMS = {
    "boat": (f"boat {NAME}", ()),
    "out": (f"out {NUMBER} {NUMBER}", (range(1, 33), range(0, 32))),
    "race": ("race", ()),
    "place": (f"place {NAME} {NUMBER} {NUMBER}", (range(1, 65), range(1, 65))),
    "miss": (f"miss {NAME}", ()),
    "dis": (f"dis {NAME}", ()),
    "avg": (f"avg {NAME}", ()),
    "pen": (f"pen {NAME} {NUMBER}", (range(1, 100),)),
}


def formed(line):
    for word, (form, limits) in FORMS.items():
        found = re.fullmatch(form, line)
        if found:
            parts = list(found.groups())
            numbers = [int(part) for part in parts[len(parts) - len(limits):]]
            if all(number in limit for number, limit in zip(numbers, limits)):
                return [word] + parts[:len(parts) - len(limits)] + numbers
    return None


def reasons(before, line):
    """All the reasons that hold of a formed line, the lines before it being right."""
    boats = [row[1] for row in before if row[0] == "boat"]
    outs = [row for row in before if row[0] == "out"]
    races = sum(row[0] == "race" for row in before)
    start = max([at for at, row in enumerate(before) if row[0] == "race"], default=0)
    if line[0] == "boat":
        return [(3, any(row[0] != "boat" for row in before)), (4, line[1] in boats), (2, len(boats) == 64)]
    if line[0] == "out":
        return [(3, not boats or races > 0), (4, bool(outs) and not (line[1] > outs[-1][1] and line[2] >= outs[-1][2])),
                (2, len(outs) == 32)]
    if line[0] == "race":
        return [(3, not boats), (2, races == 32)]
    hers = [row[0] for row in before[start:] if races and row[0] not in ("boat", "out", "race") and row[1] == line[1]]
    lost = races == 0 or line[1] not in boats
    if line[0] == "pen":
        return [(3, lost or not ("place" in hers or "miss" in hers)), (4, "pen" in hers)]
    beyond = line[0] == "place" and line[2] + line[3] - 1 > len(boats)
    return [(3, lost), (4, beyond or any(word != "pen" for word in hers))]


def reading(text):
    """The series' lines and no fault, or no lines and the fault."""
    rows = text.split("\n")
    before = []
    for number, row in enumerate(rows[:-1]):
        line = formed(row)
        if line is None:
            return None, [number, 1]
        for why, holds in reasons(before, line):
            if holds:
                return None, [number, why]
        before.append(line)
    if rows[-1]:
        return None, [len(rows) - 1, 1]
    return before, None


def plain_points(lines, r, i, k):
    """Points as Python's fractions, each race read anew; None where the race is avg."""
    boats = [row[1] for row in lines if row[0] == "boat"]
    starts = [at for at, row in enumerate(lines) if row[0] == "race"] + [len(lines)]
    worst = Fraction(len(boats) + 1)

    def one(race):
        hers = {row[0]: row[2:] for row in lines[starts[race] + 1:starts[race + 1]] if row[1] == boats[i]}
        if "avg" in hers:
            return None
        if "place" not in hers:
            return worst
        own = hers["place"][0] + Fraction(hers["place"][1] - 1, 2)
        return min(worst, own + hers["pen"][0]) if "pen" in hers else own

    if one(k) is not None:
        return one(k)
    others = [one(race) for race in range(r) if one(race) is not None]
    return sum(others) / len(others) if others else worst


def told_points(lines, r, i, k):
    if r > sum(row[0] == "race" for row in lines):
        return [-8]
    if i >= sum(row[0] == "boat" for row in lines) or k >= r:
        return [-4]
    own = plain_points(lines, r, i, k)
    return [0, own.numerator, own.denominator]


class Maker:
    """Made texts that mostly go right, with a slip here and there."""

    def __init__(self, seed):
        self.chance = random.Random(seed)

    def series(self):
        count = self.chance.randint(1, 6)
        lines = [f"boat b{number}" for number in range(count)]
        if self.chance.random() < 0.6:
            lines += [f"out {r} {r // 2}" for r in sorted(self.chance.sample(range(1, 33), 3))]
        for race in range(self.chance.randint(0, 6)):
            lines.append("race")
            for number in self.chance.sample(range(count), self.chance.randint(0, count)):
                lines += self.result(f"b{number}", count)
        return lines

    def result(self, name, count):
        word = self.chance.choice(["place", "place", "miss", "dis", "avg"])
        if word != "place":
            own = [f"{word} {name}"]
        else:
            place = self.chance.randint(1, count)
            own = [f"place {name} {place} {self.chance.randint(1, count - place + 1)}"]
        if word in ("place", "miss") and self.chance.random() < 0.4:
            own.append(f"pen {name} {self.chance.choice([1, 2, 3, 50, 99])}")
        return own

    def slip(self, lines):
        """The text of the lines, some of them moved, doubled, new, or with a sign changed."""
        chance = self.chance
        lines = list(lines)
        for turn in range(chance.choice([0, 0, 1, 1, 2])):
            at = chance.randrange(len(lines) + 1)
            sort = chance.randrange(4)
            if sort == 0:
                lines.insert(at, chance.choice(lines))
            elif sort == 1 and at < len(lines):
                lines.insert(chance.randrange(len(lines)), lines.pop(at))
            elif sort == 2:
                name = chance.choice(["b0", "b1", "b9", "a" * 12, "a" * 13, ""])
                lines.insert(at, chance.choice([
                    f"boat {name}", f"out {chance.randint(0, 34)} {chance.randint(0, 33)}", "race", f"miss {name}",
                    f"dis {name}", f"avg {name}", f"pen {name} {chance.randint(0, 101)}",
                    f"place {name} {chance.randint(0, 8)} {chance.randint(0, 8)}"]))
            elif at < len(lines):
                cut = chance.randrange(len(lines[at]) + 1)
                sign = chance.choice([" ", "0", "1", "a", "A", "\n", "\t", "\xff", ""])
                lines[at] = lines[at][:cut] + sign + lines[at][cut + chance.randrange(2):]
        text = "".join(line + "\n" for line in lines)
        return text[:-1] if chance.random() < 0.03 else text


class OtherReading(unittest.TestCase):
    def test_made_texts(self):
        met = {}
        for seed in range(3000):
            maker = Maker(seed)
            text = maker.slip(maker.series())
            cut = maker.chance.randint(0, len(text))
            held, calls, expected = [], [], []
            for sort, piece in ((take, text), (take, text[:cut]), (more, text[cut:]), (more, "race\n")):
                whole = piece if sort is take else "".join(held) + piece
                lines, fault = reading(whole)
                calls.append(sort(piece))
                expected.append([0] if fault is None else [-6] + fault)
                met[tuple(fault[1:]) if fault else "right"] = True
                held = held if fault else [whole]
                kept = reading("".join(held))[0]
                calls += [TEXT, SIZES]
                expected.append([len("".join(held))] + codes("".join(held)))
                expected.append([0] + [sum(row[0] == word for row in kept) for word in ("boat", "out", "race")])
                for turn in range(6):
                    asked = [maker.chance.randint(0, 7), maker.chance.randint(0, 6), maker.chance.randint(0, 6)]
                    calls.append(points(*asked))
                    expected.append(told_points(kept, *asked))
            self.assertEqual(ask(*calls), expected, (seed, text))
        self.assertEqual(sorted(map(str, met)), ["(1,)", "(3,)", "(4,)", "right"])

    def test_every_point_of_made_series(self):
        for seed in range(300):
            text = "".join(line + "\n" for line in Maker(seed).series())
            lines = reading(text)[0]
            asked = [(r, i, k) for r in range(7) for i in range(6) for k in range(7)][:290]
            self.assertEqual(ask(take(text), *[points(*numbers) for numbers in asked]),
                             [[0]] + [told_points(lines, *numbers) for numbers in asked], (seed, text))


if __name__ == "__main__":
    unittest.main()
