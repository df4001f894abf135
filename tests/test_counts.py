"""Promises 3 and 4, of ways, numbers and all: how many sets of leaves of the whole book have a sum."""

import collections
import itertools
import unittest

from calls import (
    LARGEST, all_sets, ask, ask_many, book, can, flat, numbers, pages_sum, put, shows, sums, tear, ways,
)

LARGEST_SEARCHED = 10


def counted_sets(leaves):
    """Found by a plain search through all sets: how many there are for each (m, s)."""
    found = collections.Counter()
    for m in range(len(leaves) + 1):
        for chosen in itertools.combinations(leaves, m):
            found[m, pages_sum(chosen)] += 1
    return found


def counted_sets_of_thirty():
    """Every set of 30 leaves is one of the lower half's and one of the upper half's together."""
    lower = counted_sets(range(1, 16))
    upper = counted_sets(range(16, 31))
    found = collections.Counter()
    for (m, s), how_many in lower.items():
        for (more, further), how_many_more in upper.items():
            found[m + more, s + further] += how_many * how_many_more
    return found


def numbers_expected(found, n, s):
    sizes = [m for m in range(n + 1) if found[m, s] > 0]
    return [len(sizes)] + sizes


def all_expected(found, n, s):
    return [sum(found[m, s] for m in range(n + 1))]


class SmallBooksTest(unittest.TestCase):
    def test_ways_against_a_search_through_all_sets(self):
        for n in range(1, LARGEST_SEARCHED + 1):
            found = counted_sets(range(1, n + 1))
            asked = [(m, s) for m in range(n + 1) for s in range(n * (2 * n + 1) + 9)]
            told = ask_many([book(n)], [ways(m, s) for m, s in asked])
            self.assertEqual(told, [[found[key]] for key in asked], n)

    def test_numbers_and_all_against_a_search_through_all_sets(self):
        for n in range(1, LARGEST_SEARCHED + 1):
            found = counted_sets(range(1, n + 1))
            asked = range(n * (2 * n + 1) + 9)
            self.assertEqual(
                ask_many([book(n)], [numbers(s) for s in asked]),
                [numbers_expected(found, n, s) for s in asked],
                n,
            )
            self.assertEqual(
                ask_many([book(n)], [all_sets(s) for s in asked]),
                [all_expected(found, n, s) for s in asked],
                n,
            )


class LargestBookTest(unittest.TestCase):
    @classmethod
    def setUpClass(cls):
        cls.found = counted_sets_of_thirty()

    def test_ways(self):
        # Every eleventh that can be, as all would take a while; of the others most can't be.
        asked = sorted(self.found)[::11] + [(m, 30 * m) for m in range(31)]
        told = ask_many([book(30)], [ways(m, s) for m, s in asked])
        self.assertEqual(told, [[self.found[key]] for key in asked])

    def test_large_counts(self):
        self.assertEqual(
            ask(book(30), ways(15, 917), ways(15, 913), ways(15, 915), ways(14, 854), ways(16, 976))[1:],
            [[self.found[15, 917]], [self.found[15, 913]], [0], [self.found[14, 854]], [self.found[16, 976]]],
        )
        self.assertGreater(self.found[15, 917], 1000000)

    def test_every_number_of_leaves_adds_up_to_all(self):
        for s in (0, 3, 210, 913, 914, 915, 916, 1827, 1830):
            by_number = ask(book(30), *[ways(m, s) for m in range(31)])[1:]
            self.assertEqual(ask(book(30), all_sets(s))[1], [sum(flat(by_number))])

    def test_numbers(self):
        told = ask_many([book(30)], [numbers(s) for s in range(1831)])
        self.assertEqual(told, [numbers_expected(self.found, 30, s) for s in range(1831)])

    def test_all(self):
        asked = list(range(0, 1831, 7)) + list(range(12)) + list(range(1819, 1831))
        told = ask_many([book(30)], [all_sets(s) for s in asked])
        self.assertEqual(told, [all_expected(self.found, 30, s) for s in asked])


class WaysTest(unittest.TestCase):
    def test_of_the_first_book(self):
        self.assertEqual(
            ask(ways(1, 3), ways(1, 39), ways(1, 43), ways(2, 10), ways(2, 18), ways(2, 42), ways(2, 43)),
            [[1], [1], [0], [1], [2], [5], [0]],
        )

    def test_no_leaves(self):
        self.assertEqual(
            ask(ways(0, 0), ways(0, 1), ways(0, 3), ways(0, 4), ways(0, 210), ways(0, LARGEST)),
            [[1], [0], [0], [0], [0], [0]],
        )

    def test_every_leaf(self):
        for n in range(1, 31):
            whole = n * (2 * n + 1)
            self.assertEqual(
                ask(book(n), ways(n, whole), ways(n, whole - 4), ways(n, whole + 4), ways(n, 0))[1:],
                [[1], [0], [0], [0]],
            )

    def test_refuses_more_leaves_than_there_are(self):
        for n in range(1, 31):
            for m in (n + 1, n + 2, 31, LARGEST):
                for s in (0, 3, n * (2 * n + 1), LARGEST):
                    self.assertEqual(ask(book(n), ways(m, s))[1], [-1])
        self.assertEqual(ask(ways(10, 0), ways(11, 0)), [[0], [-1]])

    def test_sums_above_all_are_not_refused(self):
        for m in range(11):
            for s in (211, 214, 1830, 1831, LARGEST - 3, LARGEST - 2, LARGEST - 1, LARGEST):
                self.assertEqual(ask(ways(m, s)), [[0]])


class NumbersTest(unittest.TestCase):
    def test_of_the_first_book(self):
        self.assertEqual(
            ask(numbers(3), numbers(10), numbers(39), numbers(42), numbers(105), numbers(210)),
            [[1, 1], [1, 2], [1, 1], [1, 2], [2, 3, 7], [1, 10]],
        )

    def test_the_set_of_no_leaves(self):
        for n in range(1, 31):
            self.assertEqual(ask(book(n), numbers(0))[1], [1, 0])

    def test_sums_that_can_not_be(self):
        self.assertEqual(
            ask(numbers(1), numbers(2), numbers(4), numbers(206), numbers(209), numbers(211), numbers(1830)),
            [[0]] * 7,
        )

    def test_the_largest_sum(self):
        self.assertEqual(
            ask(book(30), numbers(1830), numbers(1829), numbers(1827), book(29), numbers(1830))[1:],
            [[1, 30], [0], [1, 29], [58], [0]],
        )

    def test_refuses_what_is_above(self):
        for n in (1, 10, 29, 30):
            self.assertEqual(ask(book(n), numbers(1831), numbers(1832), numbers(LARGEST))[1:], [[-1]] * 3)


class AllTest(unittest.TestCase):
    def test_of_the_first_book(self):
        self.assertEqual(
            ask(all_sets(3), all_sets(10), all_sets(18), all_sets(42), all_sets(210)),
            [[1], [1], [2], [5], [1]],
        )

    def test_the_set_of_no_leaves(self):
        for n in range(1, 31):
            self.assertEqual(ask(book(n), all_sets(0))[1], [1])

    def test_sums_that_can_not_be(self):
        self.assertEqual(
            ask(all_sets(1), all_sets(2), all_sets(4), all_sets(206), all_sets(209), all_sets(211), all_sets(1830)),
            [[0]] * 7,
        )

    def test_the_largest_sum(self):
        self.assertEqual(
            ask(book(30), all_sets(1830), all_sets(1829), all_sets(1827), book(29), all_sets(1830))[1:],
            [[1], [0], [1], [58], [0]],
        )

    def test_refuses_what_is_above(self):
        for n in (1, 10, 29, 30):
            self.assertEqual(ask(book(n), all_sets(1831), all_sets(1832), all_sets(LARGEST))[1:], [[-1]] * 3)

    def test_every_set_has_one_sum(self):
        for n in range(1, 13):
            told = ask_many([book(n)], [all_sets(s) for s in range(n * (2 * n + 1) + 1)])
            self.assertEqual(sum(flat(told)), 2 ** n)


class WholeBookTest(unittest.TestCase):
    ASKED = [
        ways(1, 3), ways(10, 210), ways(2, 42), ways(0, 0), numbers(3), numbers(105), numbers(210), numbers(0),
        all_sets(3), all_sets(105), all_sets(210), all_sets(0),
    ]

    def test_whatever_is_torn_out(self):
        untouched = ask(*self.ASKED)
        tears = [tear(k) for k in range(10, 0, -1)]
        self.assertEqual(ask(tear(1), tear(10), *self.ASKED)[2:], untouched)
        self.assertEqual(ask(*tears, *self.ASKED)[10:], untouched)
        self.assertEqual(ask(tear(1), put(1), *self.ASKED)[2:], untouched)

    def test_change_nothing(self):
        refused = [ways(11, 0), numbers(1831), all_sets(1831)]
        self.assertEqual(
            ask(tear(5), tear(2), *self.ASKED, *refused, shows(), sums())[-5:],
            [[-1], [-1], [-1], [2, 2, 5], [26, 184]],
        )

    def test_of_the_new_book(self):
        asked = [ways(1, 43), numbers(43), all_sets(43), can(1, 43)]
        self.assertEqual(
            ask(*asked, book(11), *asked, book(9), ways(1, 39), ways(10, 210), numbers(210), all_sets(210)),
            [[0], [0], [0], [0], [22], [1], [1, 1], [1], [1], [18], [0], [-1], [0], [0]],
        )


if __name__ == "__main__":
    unittest.main()
