"""What gaps tells: the missing pages, as many as hang together."""

import itertools
import unittest

from calls import ask, book, gaps, put, shows, sums, tear


def gaps_expected(leaves):
    """Built page by page out of all missing pages."""
    missing = {page for k in leaves for page in (2 * k - 1, 2 * k)}
    begins = [page for page in sorted(missing) if page - 1 not in missing]
    ends = [page for page in sorted(missing) if page + 1 not in missing]
    return [len(begins)] + [page for gap in zip(begins, ends) for page in gap]


class GapsTest(unittest.TestCase):
    def test_none(self):
        self.assertEqual(ask(gaps()), [[0]])
        for n in range(1, 31):
            self.assertEqual(ask(book(n), gaps())[1], [0])

    def test_one_leaf(self):
        for k in range(1, 31):
            self.assertEqual(ask(book(30), tear(k), gaps())[2], [1, 2 * k - 1, 2 * k])

    def test_one_behind_another(self):
        self.assertEqual(ask(tear(3), tear(4), tear(5), gaps())[3], [1, 5, 10])

    def test_apart(self):
        self.assertEqual(ask(tear(1), tear(3), tear(10), gaps())[3], [3, 1, 2, 5, 6, 19, 20])

    def test_both(self):
        self.assertEqual(
            ask(tear(1), tear(2), tear(4), tear(7), tear(8), tear(9), gaps())[6],
            [3, 1, 4, 7, 8, 13, 18],
        )

    def test_whatever_the_order(self):
        for order in itertools.permutations((2, 3, 5, 9, 10)):
            self.assertEqual(ask(*[tear(k) for k in order], gaps())[5], [3, 3, 6, 9, 10, 17, 20])

    def test_every_way_to_tear_a_small_book(self):
        for n in range(1, 9):
            for taken in itertools.product((False, True), repeat=n):
                leaves = [k for k in range(n, 0, -1) if taken[k - 1]]
                answered = ask(book(n), *[tear(k) for k in leaves], gaps())[-1]
                self.assertEqual(answered, gaps_expected(leaves), (n, leaves))

    def test_the_whole_book(self):
        for n in range(1, 31):
            tears = [tear(k) for k in range(n, 0, -1)]
            self.assertEqual(ask(book(n), *tears, gaps())[-1], [1, 1, 2 * n])

    def test_every_second_leaf_of_the_largest_book(self):
        odd = list(range(1, 30, 2))
        even = list(range(2, 31, 2))
        self.assertEqual(ask(book(30), *[tear(k) for k in odd], gaps())[-1], gaps_expected(odd))
        self.assertEqual(ask(book(30), *[tear(k) for k in even], gaps())[-1], gaps_expected(even))

    def test_behind_put(self):
        self.assertEqual(
            ask(tear(3), tear(4), tear(5), put(4), gaps(), put(3), gaps(), put(5), gaps(), tear(4), gaps())[4:],
            [[2, 5, 6, 9, 10], [5, 6], [1, 9, 10], [9, 10], [0], [7, 8], [1, 7, 8]],
        )

    def test_behind_a_new_book(self):
        self.assertEqual(ask(tear(3), book(10), gaps(), tear(1), gaps())[2:], [[0], [1, 2], [1, 1, 2]])

    def test_behind_refusals(self):
        self.assertEqual(
            ask(tear(3), tear(3), tear(11), put(4), book(0), book(31), gaps())[1:],
            [[-4], [-2], [-6], [-1], [-1], [1, 5, 6]],
        )

    def test_changes_nothing(self):
        self.assertEqual(
            ask(tear(5), tear(4), tear(2), gaps(), gaps(), shows(), sums())[3:],
            [[2, 3, 4, 7, 10], [2, 3, 4, 7, 10], [3, 2, 4, 5], [41, 169]],
        )


if __name__ == "__main__":
    unittest.main()
