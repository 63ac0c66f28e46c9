"""Calls written short, and the answers cut apart again."""

from racetally.desk import answers

TEXT = [2]
SIZES = [3]

NOT_FORMED = 1
TOO_MUCH = 2
CANT_STAND = 3
CLASHES = 4


def codes(text):
    return list(text.encode("latin-1")) if isinstance(text, str) else list(text)


def take(text):
    return [0, len(codes(text))] + codes(text)


def more(text):
    return [1, len(codes(text))] + codes(text)


def points(r, i, k):
    return [4, r, i, k]


def text_of(*lines):
    return "".join(line + "\n" for line in lines)


def ask(*calls):
    """The answer to each of the calls, on one new object."""
    told = answers([number for call in calls for number in call])
    cut = []
    at = 0
    while at < len(told):
        cut.append(told[at + 1:at + 1 + told[at]])
        assert len(cut[-1]) == told[at], "an answer is shorter than it says"
        at += 1 + told[at]
    assert len(cut) == len(calls), "not one answer for each call"
    return cut


def taken(*lines):
    """What take answers to a text of these lines."""
    return ask(take(text_of(*lines)))[0]


def in_pieces(text):
    """Calls by which a text too long for one take is held: a take, then mores, cut at line feeds."""
    pieces = [""]
    for line in text.splitlines(keepends=True):
        if len(pieces[-1]) + len(line) > 16383:
            pieces.append("")
        pieces[-1] += line
    return [take(pieces[0])] + [more(piece) for piece in pieces[1:]]
