"""Promise 2: tear and put; and what shows and sums tell behind them."""

import unittest

from calls import LARGEST, ask, book, put, shows, sums, tear

SIZES = (1, 2, 7, 10, 30)


class TearTest(unittest.TestCase):
    def test_answers_the_two_pages(self):
        for k in range(1, 31):
            self.assertEqual(ask(book(30), tear(k)), [[60], [2 * k - 1, 2 * k]])

    def test_refuses_a_leaf_that_is_not_there(self):
        for n in SIZES:
            for k in (0, n + 1, n + 2, 31, LARGEST):
                self.assertEqual(
                    ask(book(n), tear(k), shows(), sums()),
                    [[2 * n], [-2], [0], [0, n * (2 * n + 1)]],
                )

    def test_takes_the_first_leaf_and_the_last(self):
        for n in SIZES:
            self.assertEqual(ask(book(n), tear(1))[1], [1, 2])
            self.assertEqual(ask(book(n), tear(n))[1], [2 * n - 1, 2 * n])

    def test_refuses_what_is_torn_out(self):
        self.assertEqual(
            ask(tear(4), tear(4), shows(), sums(), tear(5), tear(4), shows()),
            [[7, 8], [-4], [1, 4], [15, 195], [9, 10], [-4], [2, 4, 5]],
        )

    def test_may_be_torn_out_again_behind_put(self):
        self.assertEqual(ask(tear(4), put(4), tear(4), shows()), [[7, 8], [7, 8], [7, 8], [1, 4]])


class PutTest(unittest.TestCase):
    def test_answers_the_two_pages(self):
        for k in range(1, 31):
            self.assertEqual(
                ask(book(30), tear(k), put(k), shows(), sums())[2:],
                [[2 * k - 1, 2 * k], [0], [0, 1830]],
            )

    def test_refuses_a_leaf_that_is_not_there(self):
        for n in SIZES:
            for k in (0, n + 1, n + 2, 31, LARGEST):
                self.assertEqual(
                    ask(book(n), tear(1), put(k), shows())[2:],
                    [[-2], [1, 1]],
                )

    def test_refuses_what_is_not_torn_out(self):
        self.assertEqual(ask(put(1), put(10), shows(), sums()), [[-6], [-6], [0], [0, 210]])
        self.assertEqual(
            ask(tear(2), put(3), shows(), sums(), put(2), put(2), shows()),
            [[3, 4], [-6], [1, 2], [7, 203], [3, 4], [-6], [0]],
        )

    def test_puts_back_that_leaf_alone(self):
        self.assertEqual(
            ask(tear(9), tear(1), tear(5), put(1), shows(), sums()),
            [[17, 18], [1, 2], [9, 10], [1, 2], [2, 5, 9], [54, 156]],
        )

    def test_new_book_has_nothing_to_put_back(self):
        self.assertEqual(ask(tear(3), book(10), put(3)), [[5, 6], [20], [-6]])


class ShowsTest(unittest.TestCase):
    def test_none(self):
        self.assertEqual(ask(shows()), [[0]])

    def test_rising_whatever_the_order(self):
        self.assertEqual(
            ask(tear(7), tear(10), tear(2), tear(9), shows())[4],
            [4, 2, 7, 9, 10],
        )

    def test_all_of_the_largest_book(self):
        backward = [tear(k) for k in range(30, 0, -1)]
        self.assertEqual(ask(book(30), *backward, shows())[-1], [30] + list(range(1, 31)))

    def test_changes_nothing(self):
        self.assertEqual(
            ask(tear(7), tear(2), shows(), shows(), put(7), shows()),
            [[13, 14], [3, 4], [2, 2, 7], [2, 2, 7], [13, 14], [1, 2]],
        )


class SumsTest(unittest.TestCase):
    def test_torn_out_then_left(self):
        self.assertEqual(ask(tear(1), sums(), tear(10), sums()), [[1, 2], [3, 207], [19, 20], [42, 168]])

    def test_behind_put(self):
        self.assertEqual(ask(tear(1), tear(10), put(1), sums())[3], [39, 171])

    def test_behind_a_new_book(self):
        self.assertEqual(
            ask(tear(1), tear(10), book(3), sums(), tear(3), sums())[3:],
            [[0, 21], [5, 6], [11, 10]],
        )

    def test_nothing_left(self):
        for n in SIZES:
            tears = [tear(k) for k in range(1, n + 1)]
            self.assertEqual(ask(book(n), *tears, sums())[-1], [n * (2 * n + 1), 0])

    def test_leaf_by_leaf(self):
        calls = [book(17)]
        for k in range(17, 0, -1):
            calls += [tear(k), sums()]
        told = ask(*calls)
        gone = 0
        for step, k in enumerate(range(17, 0, -1)):
            gone += 2 * k - 1 + 2 * k
            self.assertEqual(told[2 + 2 * step], [gone, 595 - gone])


if __name__ == "__main__":
    unittest.main()
