"""take, more, text and sizes, and how all calls and answers lie in their lists."""

import unittest

from racetally.desk import answers
from tests.helper import (CANT_STAND, CLASHES, NOT_FORMED, SIZES, TEXT, ask, before, codes, in_pieces, more, order, out,
                          place, points, take, text_of, total)

SMALL = text_of("boat a", "boat b", "out 2 1", "race", "place a 1 1", "pen a 3", "miss b", "race", "dis a", "avg b")
FULL = 65536
EVERY_CALL = (take(SMALL) + more("race\n") + more("x\n") + TEXT + SIZES + points(2, 0, 0) + points(9, 9, 9) + out(3, 0)
              + out(9, 0) + total(3, 1) + total(3, 9) + before(3, 0, 1) + before(3, 0, 9) + place(3, 1) + place(9, 1)
              + order(3) + order(9))


class Watched(list):
    """A list that can't be changed, not for a while either."""

    def refuse(self, *given):
        raise AssertionError("the list was changed")

    __setitem__ = __delitem__ = __iadd__ = __imul__ = append = extend = insert = pop = remove = clear = refuse
    sort = reverse = refuse


def told_text(text):
    return [len(text)] + codes(text)


def long_text(length):
    """A series' text of just so many bytes, near 65,536: as many of its numbers are 10, not 1, as that takes."""
    names = [f"boat{number:08}" for number in range(64)]
    shortest = 64 * len("boat boat00000000\n") + 23 * len("race\n")
    shortest += 23 * 64 * (len("place boat00000000 1 1\n") + len("pen boat00000000 1\n"))
    longer = length - shortest
    numbers = ["10"] * longer + ["1"] * (23 * 64 * 3 - longer)
    lines = ["boat " + name for name in names]
    for race in range(23):
        lines.append("race")
        for name in names:
            lines += [f"place {name} {numbers.pop()} {numbers.pop()}", f"pen {name} {numbers.pop()}"]
    return text_of(*lines)


class Take(unittest.TestCase):
    def test_it_holds_the_series(self):
        self.assertEqual(ask(take(SMALL), SIZES, TEXT), [[0], [0, 2, 1, 2], told_text(SMALL)])

    def test_it_forgets_the_one_before(self):
        self.assertEqual(ask(take(SMALL), take("boat z\n"), SIZES, TEXT, take(""), SIZES, TEXT),
                         [[0], [0], [0, 1, 0, 0], told_text("boat z\n"), [0], [0, 0, 0, 0], [0]])

    def test_a_refusal_leaves_it_as_it_was(self):
        for text, line, why in (("boat z\nboat z\n", 1, CLASHES), ("boat y", 0, NOT_FORMED), ("race\n", 0, CANT_STAND),
                                (SMALL + "x\n", 10, NOT_FORMED)):
            self.assertEqual(ask(take(SMALL), take(text), SIZES, TEXT, points(2, 1, 1)),
                             [[0], [-6, line, why], [0, 2, 1, 2], told_text(SMALL), [0, 3, 1]])
            self.assertEqual(ask(take(text), SIZES, TEXT), [[-6, line, why], [0, 0, 0, 0], [0]])


class More(unittest.TestCase):
    def test_it_goes_on_from_the_held_text(self):
        for cut in [0] + [at + 1 for at, sign in enumerate(SMALL) if sign == "\n"]:
            self.assertEqual(ask(take(SMALL[:cut]), more(SMALL[cut:]), SIZES, TEXT),
                             [[0], [0], [0, 2, 1, 2], told_text(SMALL)])

    def test_line_by_line_on_a_new_object(self):
        lines = SMALL.splitlines(keepends=True)
        self.assertEqual(ask(*[more(line) for line in lines], TEXT, SIZES),
                         [[0]] * len(lines) + [told_text(SMALL), [0, 2, 1, 2]])

    def test_of_nothing(self):
        self.assertEqual(ask(more(""), TEXT, take(SMALL), more(""), TEXT), [[0], [0], [0], [0], told_text(SMALL)])

    def test_the_fault_is_counted_from_the_held_text_on(self):
        self.assertEqual(ask(take("boat a\n"), more("boat b\nboat a\n"), more("boat b\nrace\n"), more("\n"),
                             more("race"), more("miss a\npen b 1\n"), SIZES),
                         [[0], [-6, 2, CLASHES], [0], [-6, 3, NOT_FORMED], [-6, 3, NOT_FORMED], [-6, 4, CANT_STAND],
                          [0, 2, 0, 1]])

    def test_a_line_cut_in_two_is_not_formed(self):
        self.assertEqual(ask(more("boa"), more("t a\n"), TEXT), [[-6, 0, NOT_FORMED], [-6, 0, NOT_FORMED], [0]])

    def test_a_refusal_leaves_every_part_as_it_was(self):
        # Each refused text first adds right lines of some sort; held races must not have kept them.
        self.assertEqual(
            ask(take("boat a\nboat b\n"), more("boat c\nx\n"), more("out 1 0\nx\n"), more("race\nx\n"), SIZES,
                more("boat c\nout 1 0\n"), more("out 2 1\nx\n"), more("out 2 0\nrace\n"), SIZES,
                more("place a 1 1\nx\n"), points(1, 0, 0), more("place a 2 1\n"), points(1, 0, 0),
                more("pen a 1\nx\n"), points(1, 0, 0), more("pen a 2\n"), points(1, 0, 0), TEXT),
            [[0], [-6, 3, 1], [-6, 3, 1], [-6, 3, 1], [0, 2, 0, 0],
             [0], [-6, 5, 1], [0], [0, 3, 2, 1],
             [-6, 7, 1], [0, 4, 1], [0], [0, 2, 1],
             [-6, 8, 1], [0, 2, 1], [0], [0, 4, 1],
             told_text("boat a\nboat b\nboat c\nout 1 0\nout 2 0\nrace\nplace a 2 1\npen a 2\n")])


class TooLong(unittest.TestCase):
    def hold(self, length):
        text = long_text(length)
        self.assertEqual(len(text), length)
        calls = in_pieces(text)
        told = ask(*calls, TEXT)
        self.assertEqual(told, [[0]] * len(calls) + [told_text(text)])
        return text, calls

    def test_65536_bytes_are_taken_and_no_more(self):
        text, calls = self.hold(FULL)
        for behind in ("x", "\n", "race\n", "x" * 16383):
            told = ask(*calls, more(behind), more(""), TEXT)
            self.assertEqual(told[-3:], [[-2], [0], told_text(text)])

    def test_a_more_that_ends_just_there(self):
        text, calls = self.hold(FULL - 5)
        end = len(text.splitlines())
        told = ask(*calls, more("race\nx"), more("race\n\n"), more("xxxx\n"), more("xxxxx"), more("xxxxxx"), SIZES,
                   more("race\n"), more("\n"))
        races = text.count("race\n")
        self.assertEqual(told[-8:], [[-2], [-2], [-6, end, NOT_FORMED], [-6, end, NOT_FORMED], [-2],
                                     [0, 64, 0, races], [0], [-2]])

    def test_take_counts_its_own_text_alone(self):
        calls = self.hold(FULL)[1]
        self.assertEqual(ask(*calls, take("boat a\n"), SIZES)[-2:], [[0], [0, 1, 0, 0]])


class TextAndSizes(unittest.TestCase):
    def test_of_a_new_object(self):
        self.assertEqual(ask(TEXT), [[0]])
        self.assertEqual(ask(SIZES), [[0, 0, 0, 0]])
        self.assertEqual(ask(TEXT, SIZES, TEXT), [[0], [0, 0, 0, 0], [0]])

    def test_sizes_count_each_sort(self):
        for text, sizes in (("boat a\n", [1, 0, 0]), ("boat a\nboat b\nout 1 0\n", [2, 1, 0]),
                            ("boat a\nout 1 0\nout 2 0\nout 3 0\nrace\nmiss a\nrace\n", [1, 3, 2])):
            self.assertEqual(ask(take(text), SIZES), [[0], [0] + sizes])

    def test_asking_changes_nothing(self):
        asked = [out(2, 0), total(2, 1), before(2, 1, 0), place(2, 1), order(2), points(2, 1, 1)]
        told = ask(take(SMALL), *asked, TEXT, SIZES, *reversed(asked), TEXT, SIZES)[1:]
        self.assertEqual(told[6:8], [told_text(SMALL), [0, 2, 1, 2]])
        self.assertEqual(told[8:14], list(reversed(told[:6])))
        self.assertEqual(told[14:], told[6:8])

    def test_a_refusal_leaves_the_standing_as_it_was(self):
        asked = [order(2), place(2, 0), total(2, 0), out(2, 1)]
        first = ask(take(SMALL), *asked)[1:]
        for refused in (take("x"), more("x"), more("race\nplace a 1 1\nx\n"), order(3), place(2, 2), total(3, 0),
                        more("place b 1 1\n")):
            told = ask(take(SMALL), refused, *asked)
            self.assertLess(told[1][0], 0)
            self.assertEqual(told[2:], first)

    def test_the_told_text_is_taken_as_the_same_series(self):
        asked = [SIZES, TEXT] + [points(r, i, k) for r in range(4) for i in range(3) for k in range(3)]
        first = ask(take(SMALL), *asked)
        told = first[2][1:]
        self.assertEqual(ask(take(told), *asked), first)
        self.assertEqual(ask(take(""), more(told), *asked)[1:], first)


class Lists(unittest.TestCase):
    def test_answers_as_they_lie(self):
        calls = [3, 0, 7] + codes("boat a\n") + [2, 1, 5] + codes("race\n") + [3, 4, 1, 0, 0, 4, 2, 0, 0, 4, 1, 1, 0,
                                                                              1, 1, 10, 0, 0]
        self.assertEqual(answers(calls), [4, 0, 0, 0, 0, 1, 0, 8, 7] + codes("boat a\n") + [
            1, 0, 4, 0, 1, 0, 1, 3, 0, 2, 1, 1, -8, 1, -4, 3, -6, 2, 1, 1, 0])

    def test_any_call_may_be_the_first(self):
        self.assertEqual(answers([0, 0]), [1, 0])
        self.assertEqual(answers([1, 0]), [1, 0])
        self.assertEqual(answers([2]), [1, 0])
        self.assertEqual(answers([3]), [4, 0, 0, 0, 0])
        self.assertEqual(answers([4, 0, 0, 0]), [1, -4])
        self.assertEqual(answers([5, 0, 0]), [1, -4])
        self.assertEqual(answers([6, 0, 0]), [1, -4])
        self.assertEqual(answers([7, 0, 0, 0]), [1, -4])
        self.assertEqual(answers([8, 0, 0]), [1, -4])
        self.assertEqual(answers([9, 0]), [1, 0])

    def test_the_calls_after_r_races_as_they_lie(self):
        text = codes("boat a\nboat b\nout 2 1\nrace\nplace b 1 2\nrace\nplace a 1 1\n")
        calls = [0, len(text)] + text + [5, 2, 0, 6, 2, 1, 7, 2, 0, 1, 8, 2, 1, 9, 2, 5, 3, 0, 6, 2, 2, 7, 2, 0, 2,
                                         8, 3, 9, 9, 3, 9, 0, 3]
        self.assertEqual(answers(calls), [1, 0, 2, 1, 0, 3, 0, 3, 2, 2, 1, 1, 3, 0, 2, 1, 3, 2, 0, 1, 1, -8, 1, -4,
                                          1, -4, 1, -8, 1, -8, 3, 2, 0, 1, 4, 0, 2, 1, 2])

    def test_a_text_with_the_numbers_of_calls_in_it(self):
        self.assertEqual(answers([0, 3, 2, 3, 10, 2]), [3, -6, 0, 1, 1, 0])

    def test_the_list_is_as_it_was(self):
        calls = list(EVERY_CALL)
        first = answers(calls)
        self.assertEqual(calls, EVERY_CALL)
        self.assertEqual(answers(calls), first)
        self.assertEqual(answers(Watched(calls)), first)

    def test_the_answer_is_a_list_of_its_own(self):
        calls = list(EVERY_CALL)
        first = answers(calls)
        kept = list(first)
        first.clear()
        self.assertEqual(answers(calls), kept)
        self.assertTrue(all(type(number) is int for number in kept))

    def test_nothing_is_kept_from_one_time_to_the_next(self):
        ask(take(SMALL), order(2))
        self.assertEqual(ask(SIZES, TEXT, more("out 1 0\n"), order(0), order(1)),
                         [[0, 0, 0, 0], [0], [-6, 0, CANT_STAND], [0], [-8]])

    def test_many_calls(self):
        calls = in_pieces(long_text(FULL))
        rest = 300 - len(calls)
        told = ask(*calls, *[more("") for call in range(rest)])
        self.assertEqual(told, [[0]] * 300)


if __name__ == "__main__":
    unittest.main()
