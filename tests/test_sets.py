"""Promise 3, of can and first: sets of leaves of the whole book."""

import itertools
import unittest

from calls import LARGEST, ask, ask_many, book, can, first, pages_sum, put, shows, sums, tear

LARGEST_SEARCHED = 10


def is_before(one, other):
    """Whether one has the lower leaf where they first differ."""
    for mine, its in zip(one, other):
        if mine != its:
            return mine < its
    return False


def first_sets(n):
    """Found by a plain search through all sets: the first one for each (m, s) that can be."""
    found = {}
    for taken in itertools.product((False, True), repeat=n):
        leaves = [k for k in range(1, n + 1) if taken[k - 1]]
        key = (len(leaves), pages_sum(leaves))
        if key not in found or is_before(leaves, found[key]):
            found[key] = leaves
    return found


def sums_from(n):
    """For each k and m, the sums of m leaves out of k to n, built leaf by leaf from the pages."""
    told = {n + 1: [{0}] + [set() for m in range(n)]}
    for k in range(n, 0, -1):
        above = told[k + 1]
        told[k] = [{0}]
        for m in range(1, n + 1):
            told[k].append(above[m] | {s + 4 * k - 1 for s in above[m - 1]})
    return told


def first_by_sums(n, m, s, sums_above):
    leaves = []
    for k in range(1, n + 1):
        if m > 0 and s - pages_sum([k]) in sums_above[k + 1][m - 1]:
            leaves.append(k)
            m -= 1
            s -= pages_sum([k])
    return leaves


class SmallBooksTest(unittest.TestCase):
    def test_against_a_search_through_all_sets(self):
        for n in range(1, LARGEST_SEARCHED + 1):
            found = first_sets(n)
            asked = [(m, s) for m in range(n + 1) for s in range(n * (2 * n + 1) + 9)]
            told_can = ask_many([book(n)], [can(m, s) for m, s in asked])
            told_first = ask_many([book(n)], [first(m, s) for m, s in asked])
            for key, is_there, answered in zip(asked, told_can, told_first):
                if key in found:
                    self.assertEqual((is_there, answered), ([1], [key[0]] + found[key]), (n, key))
                else:
                    self.assertEqual((is_there, answered), ([0], [-6]), (n, key))


class LargestBookTest(unittest.TestCase):
    def test_against_sums_built_leaf_by_leaf(self):
        above = sums_from(30)
        asked = [(m, s) for m in range(31) for s in range(1840)]
        told_can = ask_many([book(30)], [can(m, s) for m, s in asked])
        told_first = ask_many([book(30)], [first(m, s) for m, s in asked])
        for (m, s), is_there, answered in zip(asked, told_can, told_first):
            if s in above[1][m]:
                expected = [m] + first_by_sums(30, m, s, above)
                self.assertEqual((is_there, answered), ([1], expected), (m, s))
            else:
                self.assertEqual((is_there, answered), ([0], [-6]), (m, s))


class CanTest(unittest.TestCase):
    def test_of_the_first_book(self):
        self.assertEqual(
            ask(can(1, 3), can(1, 39), can(1, 43), can(2, 10), can(2, 14), can(2, 11), can(10, 210)),
            [[1], [1], [0], [1], [1], [0], [1]],
        )

    def test_no_leaves(self):
        self.assertEqual(
            ask(can(0, 0), can(0, 1), can(0, 4), can(0, 210), can(0, LARGEST), can(0, LARGEST - 3)),
            [[1], [0], [0], [0], [0], [0]],
        )

    def test_every_leaf(self):
        for n in range(1, 31):
            whole = n * (2 * n + 1)
            self.assertEqual(
                ask(book(n), can(n, whole), can(n, whole - 4), can(n, whole + 4), can(n, 0))[1:],
                [[1], [0], [0], [0]],
            )

    def test_refuses_more_leaves_than_there_are(self):
        for n in range(1, 31):
            for m in (n + 1, n + 2, 31, LARGEST):
                for s in (0, 3, n * (2 * n + 1), LARGEST):
                    self.assertEqual(ask(book(n), can(m, s))[1], [-1])
        self.assertEqual(ask(can(10, 0), can(11, 0)), [[0], [-1]])

    def test_sums_above_all(self):
        for m in range(11):
            for s in (211, 214, 1830, 1831, LARGEST - 3, LARGEST - 2, LARGEST - 1, LARGEST):
                self.assertEqual(ask(can(m, s)), [[0]])


class FirstTest(unittest.TestCase):
    def test_of_the_first_book(self):
        self.assertEqual(
            ask(first(1, 3), first(1, 39), first(2, 42), first(3, 57), first(10, 210)),
            [[1, 1], [1, 10], [2, 1, 10], [3, 1, 4, 10], [10] + list(range(1, 11))],
        )

    def test_no_leaves(self):
        self.assertEqual(
            ask(first(0, 0), first(0, 1), first(0, 4), first(0, LARGEST)),
            [[0], [-6], [-6], [-6]],
        )

    def test_every_leaf(self):
        for n in range(1, 31):
            whole = n * (2 * n + 1)
            self.assertEqual(
                ask(book(n), first(n, whole), first(n, whole - 4), first(n, whole + 4))[1:],
                [[n] + list(range(1, n + 1)), [-6], [-6]],
            )

    def test_refuses_more_leaves_than_there_are(self):
        for n in range(1, 31):
            for m in (n + 1, n + 2, 31, LARGEST):
                for s in (0, 3, n * (2 * n + 1), LARGEST):
                    self.assertEqual(ask(book(n), first(m, s))[1], [-1])

    def test_refuses_sums_that_can_not_be(self):
        self.assertEqual(
            ask(first(1, 0), first(1, 4), first(1, 43), first(2, 6), first(2, 11), first(9, 211), first(10, 206)),
            [[-6]] * 7,
        )
        for m in range(11):
            for s in (211, 214, 1830, 1831, LARGEST - 3, LARGEST - 2, LARGEST - 1, LARGEST):
                self.assertEqual(ask(first(m, s)), [[-6]])


class WholeBookTest(unittest.TestCase):
    def test_whatever_is_torn_out(self):
        asked = [can(1, 3), can(10, 210), can(2, 42), first(1, 3), first(2, 42), first(10, 210), first(1, 4)]
        untouched = ask(*asked)
        tears = [tear(k) for k in range(10, 0, -1)]
        self.assertEqual(ask(tear(1), tear(10), *asked)[2:], untouched)
        self.assertEqual(ask(*tears, *asked)[10:], untouched)
        self.assertEqual(ask(tear(1), put(1), *asked)[2:], untouched)

    def test_change_nothing(self):
        self.assertEqual(
            ask(tear(5), tear(2), can(2, 42), first(2, 42), can(11, 0), first(11, 0), first(1, 0), shows(), sums())[2:],
            [[1], [2, 1, 10], [-1], [-1], [-6], [2, 2, 5], [26, 184]],
        )

    def test_of_the_new_book(self):
        self.assertEqual(
            ask(can(1, 43), book(11), can(1, 43), first(1, 43), book(9), can(1, 39), first(1, 39), can(10, 210)),
            [[0], [22], [1], [1, 11], [18], [0], [-6], [-1]],
        )


if __name__ == "__main__":
    unittest.main()
