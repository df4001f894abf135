"""The interface: how calls are handed in and how answers are given back."""

import contextlib
import io
import unittest

import tornleaves.book
from calls import LARGEST, ask, book, can, first, flat, put, shows, sums, tear

MIXED = [
    book(12), tear(12), tear(3), tear(12), tear(13), shows(), sums(), put(3), put(3), put(0),
    can(2, 10), can(13, 0), can(2, 11), first(2, 14), first(2, 11), first(13, 0), first(0, 0),
    book(0), shows(), book(31), sums(), book(1), shows(), sums(), tear(1), shows(), sums(),
    tear(2), put(1), can(1, 3), can(0, 0), first(1, 3), can(2, 3), book(30), tear(30),
    first(30, 1830), can(30, 1830), can(LARGEST, LARGEST), tear(LARGEST), put(LARGEST),
]

MIXED_ANSWERS = [
    [24], [23, 24], [5, 6], [-4], [-2], [2, 3, 12], [58, 242], [5, 6], [-6], [-2],
    [1], [-1], [0], [2, 1, 3], [-6], [-1], [0],
    [-1], [1, 12], [-1], [47, 253], [2], [0], [0, 3], [1, 2], [1, 1], [3, 0],
    [-2], [1, 2], [1], [1], [1, 1], [-1], [60], [59, 60],
    [30] + list(range(1, 31)), [1], [-1], [-2], [-2],
]


class Unchanging(list):
    """A list that fails as soon as somebody changes it, be it for a while."""

    def refuse(self, *given, **named):
        raise AssertionError("the list handed in was changed")

    append = clear = extend = insert = pop = remove = reverse = sort = refuse
    __setitem__ = __delitem__ = __iadd__ = __imul__ = refuse


class FormTest(unittest.TestCase):
    def test_one_call(self):
        for call, given_back in (
            (book(7), [1, 14]),
            (book(0), [1, -1]),
            (tear(4), [2, 7, 8]),
            (tear(11), [1, -2]),
            (put(4), [1, -6]),
            (shows(), [1, 0]),
            (sums(), [2, 0, 210]),
            (can(1, 3), [1, 1]),
            (can(1, 4), [1, 0]),
            (can(11, 4), [1, -1]),
            (first(2, 14), [3, 2, 1, 3]),
            (first(0, 0), [1, 0]),
            (first(2, 15), [1, -6]),
        ):
            self.assertEqual(tornleaves.book.answers(call), given_back)

    def test_several_calls(self):
        self.assertEqual(
            tornleaves.book.answers([1, 5, 1, 2, 1, 5, 3, 4, 2, 5, 3]),
            [2, 9, 10, 2, 3, 4, 1, -4, 3, 2, 2, 5, 2, 26, 184, 2, 9, 10, 2, 1, 2],
        )

    def test_forty_calls(self):
        self.assertEqual(len(MIXED), 40)
        self.assertEqual(ask(*MIXED), MIXED_ANSWERS)
        expected = flat([[len(answered)] + answered for answered in MIXED_ANSWERS])
        self.assertEqual(tornleaves.book.answers(flat(MIXED)), expected)

    def test_every_beginning_of_the_line(self):
        for length in range(1, 41):
            self.assertEqual(ask(*MIXED[:length]), MIXED_ANSWERS[:length])

    def test_a_list_of_whole_numbers(self):
        given_back = tornleaves.book.answers(flat(MIXED))
        self.assertIs(type(given_back), list)
        self.assertEqual({type(number) for number in given_back}, {int})


class NothingElseTest(unittest.TestCase):
    def test_what_is_handed_in_is_not_changed(self):
        handed_in = flat(MIXED)
        tornleaves.book.answers(handed_in)
        self.assertEqual(handed_in, flat(MIXED))

    def test_not_for_a_while_either(self):
        self.assertEqual(
            tornleaves.book.answers(Unchanging(flat(MIXED))),
            tornleaves.book.answers(flat(MIXED)),
        )

    def test_nothing_is_kept(self):
        handed_in = flat(MIXED)
        once = tornleaves.book.answers(handed_in)
        self.assertEqual(tornleaves.book.answers(handed_in), once)
        self.assertEqual(ask(shows(), sums(), tear(10)), [[0], [0, 210], [19, 20]])

    def test_what_is_given_back_is_new_each_time(self):
        once = tornleaves.book.answers([3])
        once.append(7)
        self.assertEqual(tornleaves.book.answers([3]), [1, 0])

    def test_prints_nothing(self):
        out = io.StringIO()
        with contextlib.redirect_stdout(out), contextlib.redirect_stderr(out):
            tornleaves.book.answers(flat(MIXED))
        self.assertEqual(out.getvalue(), "")


if __name__ == "__main__":
    unittest.main()
