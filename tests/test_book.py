"""Promise 1: book, and what a book is at its beginning."""

import unittest

from calls import LARGEST, ask, book, shows, sums, tear


class BeginningTest(unittest.TestCase):
    def test_has_ten_leaves_none_torn_out(self):
        self.assertEqual(ask(shows(), sums()), [[0], [0, 210]])
        self.assertEqual(ask(tear(10), tear(11)), [[19, 20], [-2]])


class BookTest(unittest.TestCase):
    def test_answers_how_many_pages(self):
        for n in range(1, 31):
            self.assertEqual(ask(book(n)), [[2 * n]])

    def test_has_as_many_leaves_as_asked(self):
        for n in range(1, 31):
            whole = sum(range(1, 2 * n + 1))
            self.assertEqual(
                ask(book(n), sums(), tear(n + 1), tear(n)),
                [[2 * n], [0, whole], [-2], [2 * n - 1, 2 * n]],
            )

    def test_refuses_what_is_not_1_to_30(self):
        for n in (0, 31, 32, 1000, LARGEST - 1, LARGEST):
            self.assertEqual(ask(book(n)), [[-1]])

    def test_new_book_has_none_torn_out(self):
        self.assertEqual(
            ask(tear(3), tear(1), book(10), shows(), sums(), tear(3)),
            [[5, 6], [1, 2], [20], [0], [0, 210], [5, 6]],
        )
        self.assertEqual(
            ask(book(2), tear(2), book(4), shows(), sums()),
            [[4], [3, 4], [8], [0], [0, 36]],
        )

    def test_refused_book_leaves_the_old_one(self):
        for n in (0, 31, LARGEST):
            self.assertEqual(
                ask(book(5), tear(4), tear(2), book(n), shows(), sums(), tear(6), tear(4), tear(5)),
                [[10], [7, 8], [3, 4], [-1], [2, 2, 4], [22, 33], [-2], [-4], [9, 10]],
            )

    def test_refused_book_leaves_the_first_one(self):
        self.assertEqual(ask(book(0), shows(), sums(), tear(10)), [[-1], [0], [0, 210], [19, 20]])


if __name__ == "__main__":
    unittest.main()
