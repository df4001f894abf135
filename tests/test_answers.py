"""The interface: how calls are handed in and how answers are given back."""

import contextlib
import io
import time
import unittest

import tornleaves.book
from calls import (
    LARGEST, all_sets, ask, book, can, first, flat, gaps, numbers, pieces, put, rid, shows, sums, tear, ways,
)

MIXED = [
    book(12), tear(12), tear(3), tear(12), tear(13), shows(), sums(), put(3), put(3), put(0),
    can(2, 10), can(13, 0), can(2, 11), first(2, 14), first(2, 11), first(13, 0), first(0, 0),
    book(0), shows(), book(31), sums(), book(1), shows(), sums(), tear(1), shows(), sums(),
    tear(2), put(1), can(1, 3), can(0, 0), first(1, 3), can(2, 3), book(30), tear(30),
    first(30, 1830), can(30, 1830), can(LARGEST, LARGEST), tear(LARGEST), put(LARGEST),
]

MIXED_ANSWERS = [
    [24], [23, 24], [5, 6], [-4], [-2], [2, 3, 12], [58, 242], [5, 6], [-6], [-2],
    [1], [-1], [0], [2, 1, 3], [-6], [-1], [0],
    [-1], [1, 12], [-1], [47, 253], [2], [0], [0, 3], [1, 2], [1, 1], [3, 0],
    [-2], [1, 2], [1], [1], [1, 1], [-1], [60], [59, 60],
    [30] + list(range(1, 31)), [1], [-1], [-2], [-2],
]

MIXED_LATER = [
    ways(2, 18), tear(4), tear(5), gaps(), tear(1), gaps(), rid(42), rid(37), rid(36), rid(210),
    ways(11, 0), numbers(105), numbers(1831), all_sets(18), all_sets(LARGEST), pieces(105), pieces(1831), put(4),
    gaps(), sums(), shows(), rid(LARGEST), can(2, 18), first(2, 18), book(2), gaps(),
    all_sets(10), pieces(7), tear(2), rid(10), rid(3), numbers(10), ways(2, 10), book(30), numbers(1830),
    all_sets(1830), pieces(1830), tear(30), rid(234), ways(LARGEST, LARGEST),
]

MIXED_LATER_ANSWERS = [
    [2], [7, 8], [9, 10], [1, 7, 10], [1, 2], [2, 1, 2, 7, 10], [-6], [0], [-6], [7, 2, 3, 6, 7, 8, 9, 10],
    [-1], [2, 3, 7], [-1], [2], [-1], [2, 1, 7, 8, 10], [-1], [7, 8],
    [2, 1, 2, 9, 10], [22, 188], [2, 1, 5], [-1], [1], [2, 1, 4], [4], [0],
    [1], [1, 2, 2], [3, 4], [1, 1], [-6], [1, 2], [1], [60], [1, 30],
    [1], [1, 1, 30], [59, 60], [1, 29], [-1],
]

LINES = (
    (MIXED, MIXED_ANSWERS),
    (MIXED_LATER, MIXED_LATER_ANSWERS),
)


class Unchanging(list):
    """A list that fails as soon as somebody changes it, be it for a while."""

    def refuse(self, *given, **named):
        raise AssertionError("the list handed in was changed")

    append = clear = extend = insert = pop = remove = reverse = sort = refuse
    __setitem__ = __delitem__ = __iadd__ = __imul__ = refuse


class FormTest(unittest.TestCase):
    def test_one_call(self):
        for call, given_back in (
            (book(7), [1, 14]),
            (book(0), [1, -1]),
            (tear(4), [2, 7, 8]),
            (tear(11), [1, -2]),
            (put(4), [1, -6]),
            (shows(), [1, 0]),
            (sums(), [2, 0, 210]),
            (can(1, 3), [1, 1]),
            (can(1, 4), [1, 0]),
            (can(11, 4), [1, -1]),
            (first(2, 14), [3, 2, 1, 3]),
            (first(0, 0), [1, 0]),
            (first(2, 15), [1, -6]),
            (ways(2, 18), [1, 2]),
            (ways(2, 19), [1, 0]),
            (ways(11, 0), [1, -1]),
            (numbers(105), [3, 2, 3, 7]),
            (numbers(0), [2, 1, 0]),
            (numbers(1), [1, 0]),
            (numbers(1831), [1, -1]),
            (all_sets(18), [1, 2]),
            (all_sets(1831), [1, -1]),
            (pieces(105), [5, 2, 1, 7, 8, 10]),
            (pieces(0), [1, 0]),
            (pieces(1831), [1, -1]),
            (gaps(), [1, 0]),
            (rid(105), [4, 3, 8, 9, 10]),
            (rid(0), [1, 0]),
            (rid(1), [1, -6]),
            (rid(1831), [1, -1]),
        ):
            self.assertEqual(tornleaves.book.answers(call), given_back)

    def test_several_calls(self):
        self.assertEqual(
            tornleaves.book.answers([1, 5, 1, 2, 1, 5, 3, 4, 2, 5, 3]),
            [2, 9, 10, 2, 3, 4, 1, -4, 3, 2, 2, 5, 2, 26, 184, 2, 9, 10, 2, 1, 2],
        )

    def test_forty_calls(self):
        for line, told in LINES:
            self.assertEqual(len(line), 40)
            self.assertEqual(ask(*line), told)
            expected = flat([[len(answered)] + answered for answered in told])
            self.assertEqual(tornleaves.book.answers(flat(line)), expected)

    def test_every_beginning_of_the_line(self):
        for line, told in LINES:
            for length in range(1, 41):
                self.assertEqual(ask(*line[:length]), told[:length])

    def test_a_list_of_whole_numbers(self):
        for line, told in LINES:
            given_back = tornleaves.book.answers(flat(line))
            self.assertIs(type(given_back), list)
            self.assertEqual({type(number) for number in given_back}, {int})


class NothingElseTest(unittest.TestCase):
    def test_what_is_handed_in_is_not_changed(self):
        for line, told in LINES:
            handed_in = flat(line)
            tornleaves.book.answers(handed_in)
            self.assertEqual(handed_in, flat(line))

    def test_not_for_a_while_either(self):
        for line, told in LINES:
            self.assertEqual(
                tornleaves.book.answers(Unchanging(flat(line))),
                tornleaves.book.answers(flat(line)),
            )

    def test_nothing_is_kept(self):
        for line, told in LINES:
            handed_in = flat(line)
            once = tornleaves.book.answers(handed_in)
            self.assertEqual(tornleaves.book.answers(handed_in), once)
            self.assertEqual(
                ask(shows(), sums(), gaps(), tear(10), rid(42)),
                [[0], [0, 210], [0], [19, 20], [1, 1]],
            )

    def test_what_is_given_back_is_new_each_time(self):
        once = tornleaves.book.answers([3])
        once.append(7)
        self.assertEqual(tornleaves.book.answers([3]), [1, 0])

    def test_prints_nothing(self):
        out = io.StringIO()
        with contextlib.redirect_stdout(out), contextlib.redirect_stderr(out):
            for line, told in LINES:
                tornleaves.book.answers(flat(line))
        self.assertEqual(out.getvalue(), "")


class DelayTest(unittest.TestCase):
    # Far above what such a line takes, and far below what going through all sets of 30 leaves would.
    SECONDS = 20

    def test_lines_of_forty_calls_on_the_largest_book(self):
        for call in (ways(15, 917), ways(29, 1771), all_sets(917), numbers(917), pieces(917), rid(917), rid(1829)):
            line = flat([book(30), tear(3)] + [call] * 38)
            begun = time.monotonic()
            once = tornleaves.book.answers(line)
            self.assertLess(time.monotonic() - begun, self.SECONDS, call)
            self.assertEqual(tornleaves.book.answers(line), once)


if __name__ == "__main__":
    unittest.main()
