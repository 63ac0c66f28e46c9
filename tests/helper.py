"""Calls written short, the answers cut apart again, and made texts."""

import random

from racetally.desk import answers

TEXT = [2]
SIZES = [3]

NOT_FORMED = 1
TOO_MUCH = 2
CANT_STAND = 3
CLASHES = 4


def codes(text):
    return list(text.encode("latin-1")) if isinstance(text, str) else list(text)


def take(text):
    return [0, len(codes(text))] + codes(text)


def more(text):
    return [1, len(codes(text))] + codes(text)


def points(r, i, k):
    return [4, r, i, k]


def out(r, i):
    return [5, r, i]


def total(r, i):
    return [6, r, i]


def before(r, i, j):
    return [7, r, i, j]


def place(r, i):
    return [8, r, i]


def order(r):
    return [9, r]


def text_of(*lines):
    return "".join(line + "\n" for line in lines)


def ask(*calls):
    """The answer to each of the calls, on one new object."""
    told = answers([number for call in calls for number in call])
    cut = []
    at = 0
    while at < len(told):
        cut.append(told[at + 1:at + 1 + told[at]])
        assert len(cut[-1]) == told[at], "an answer is shorter than it says"
        at += 1 + told[at]
    assert len(cut) == len(calls), "not one answer for each call"
    return cut


def tell(lines, *calls):
    """The answers to the calls on an object that holds the series of these lines."""
    told = ask(take(text_of(*lines)), *calls)
    assert told[0] == [0], "these lines aren't a series"
    return told[1:]


def taken(*lines):
    """What take answers to a text of these lines."""
    return ask(take(text_of(*lines)))[0]


def in_pieces(text):
    """Calls by which a text too long for one take is held: a take, then mores, cut at line feeds."""
    pieces = [""]
    for line in text.splitlines(keepends=True):
        if len(pieces[-1]) + len(line) > 16383:
            pieces.append("")
        pieces[-1] += line
    return [take(pieces[0])] + [more(piece) for piece in pieces[1:]]


class Maker:
    """Made texts that mostly go right, with a slip here and there."""

    def __init__(self, seed):
        self.chance = random.Random(seed)

    def series(self):
        count = self.chance.randint(1, 6)
        lines = [f"boat b{number}" for number in range(count)]
        lines += self.outs()
        for race in range(self.chance.randint(0, 6)):
            lines.append("race")
            for number in self.chance.sample(range(count), self.chance.randint(0, count)):
                lines += self.result(f"b{number}", count)
        return lines

    def close_series(self):
        """Few boats that mostly finish, so that totals are often the same."""
        count = self.chance.randint(2, 5)
        names = [f"b{number}" for number in range(count)]
        lines = [f"boat {name}" for name in names] + self.outs()
        for race in range(self.chance.randint(1, 6)):
            lines.append("race")
            for number, name in enumerate(self.chance.sample(names, count)):
                word = self.chance.choice(["place"] * 12 + ["dis", "avg", "miss"])
                lines.append(f"place {name} {number + 1} 1" if word == "place" else f"{word} {name}")
        return lines

    def outs(self):
        """Up to three outs, mostly of as few races as are made; k may be more than these."""
        count = self.chance.randint(0, 3)
        most = self.chance.choice([5, 5, 7, 32])
        left = sorted(self.chance.choice([0, 1, 1, 2, 2, 3, 4, 7, 31]) for number in range(count))
        return [f"out {r} {k}" for r, k in zip(sorted(self.chance.sample(range(1, most + 1), count)), left)]

    def result(self, name, count):
        word = self.chance.choice(["place", "place", "miss", "dis", "avg"])
        if word != "place":
            own = [f"{word} {name}"]
        else:
            place = self.chance.randint(1, count)
            own = [f"place {name} {place} {self.chance.randint(1, count - place + 1)}"]
        if word in ("place", "miss") and self.chance.random() < 0.4:
            own.append(f"pen {name} {self.chance.choice([1, 2, 3, 50, 99])}")
        return own

    def slip(self, lines):
        """The text of the lines, some of them moved, doubled, new, or with a sign changed."""
        chance = self.chance
        lines = list(lines)
        for turn in range(chance.choice([0, 0, 1, 1, 2])):
            at = chance.randrange(len(lines) + 1)
            sort = chance.randrange(4)
            if sort == 0:
                lines.insert(at, chance.choice(lines))
            elif sort == 1 and at < len(lines):
                lines.insert(chance.randrange(len(lines)), lines.pop(at))
            elif sort == 2:
                name = chance.choice(["b0", "b1", "b9", "a" * 12, "a" * 13, ""])
                lines.insert(at, chance.choice([
                    f"boat {name}", f"out {chance.randint(0, 34)} {chance.randint(0, 33)}", "race", f"miss {name}",
                    f"dis {name}", f"avg {name}", f"pen {name} {chance.randint(0, 101)}",
                    f"place {name} {chance.randint(0, 8)} {chance.randint(0, 8)}"]))
            elif at < len(lines):
                cut = chance.randrange(len(lines[at]) + 1)
                sign = chance.choice([" ", "0", "1", "a", "A", "\n", "\t", "\xff", ""])
                lines[at] = lines[at][:cut] + sign + lines[at][cut + chance.randrange(2):]
        text = "".join(line + "\n" for line in lines)
        return text[:-1] if chance.random() < 0.03 else text
