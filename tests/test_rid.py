"""Promise 4, of rid: the fewest leaves that must still go for a sum, and the first set of them."""

import itertools
import unittest

from calls import LARGEST, ask, ask_many, book, first, gaps, numbers, pages_sum, put, rid, shows, sums, tear

LARGEST_SEARCHED = 7


def first_of_fewest(n, torn, most):
    """Found by a plain search, fewer leaves first and these in their order: the set for each sum that can be."""
    left = [k for k in range(1, n + 1) if k not in torn]
    found = {}
    for m in range(min(most, len(left)) + 1):
        for chosen in itertools.combinations(left, m):
            found.setdefault(pages_sum(torn) + pages_sum(chosen), list(chosen))
    return found


class SmallBooksTest(unittest.TestCase):
    def test_whatever_is_torn_out(self):
        for n in range(1, LARGEST_SEARCHED + 1):
            asked = range(n * (2 * n + 1) + 5)
            for taken in itertools.product((False, True), repeat=n):
                torn = [k for k in range(n, 0, -1) if taken[k - 1]]
                found = first_of_fewest(n, torn, n)
                told = ask_many([book(n)] + [tear(k) for k in torn], [rid(s) for s in asked])
                for s, answered in zip(asked, told):
                    expected = [len(found[s])] + found[s] if s in found else [-6]
                    self.assertEqual(answered, expected, (n, torn, s))

    def test_nothing_torn_out(self):
        for n in range(LARGEST_SEARCHED + 1, 12):
            found = first_of_fewest(n, [], n)
            asked = range(n * (2 * n + 1) + 5)
            for s, answered in zip(asked, ask_many([book(n)], [rid(s) for s in asked])):
                expected = [len(found[s])] + found[s] if s in found else [-6]
                self.assertEqual(answered, expected, (n, s))


class LargestBookTest(unittest.TestCase):
    def test_nothing_torn_out(self):
        asked = list(range(0, 1831, 9)) + list(range(12)) + list(range(1819, 1831))
        told_numbers = ask_many([book(30)], [numbers(s) for s in asked])
        told = ask_many([book(30)], [rid(s) for s in asked])
        for s, sizes, answered in zip(asked, told_numbers, told):
            if sizes[0] == 0:
                self.assertEqual(answered, [-6], s)
            else:
                self.assertEqual(answered, ask(book(30), first(sizes[1], s))[1], s)

    def test_few_must_go(self):
        torn = [30, 2, 17, 9, 10, 28]
        found = first_of_fewest(30, torn, 3)
        asked = sorted(found)
        told = ask_many([book(30)] + [tear(k) for k in torn], [rid(s) for s in asked])
        for s, answered in zip(asked, told):
            self.assertEqual(answered, [len(found[s])] + found[s], s)

    def test_few_are_left(self):
        left = [3, 4, 8, 11, 12, 20, 29]
        torn = [k for k in range(30, 0, -1) if k not in left]
        found = first_of_fewest(30, torn, 30)
        asked = range(pages_sum(torn) - 9, 1831)
        told = ask_many([book(30)] + [tear(k) for k in torn], [rid(s) for s in asked])
        for s, answered in zip(asked, told):
            expected = [len(found[s])] + found[s] if s in found else [-6]
            self.assertEqual(answered, expected, s)

    def test_every_leaf_must_go(self):
        self.assertEqual(
            ask(book(30), rid(1830), tear(7), rid(1830), put(7), rid(1830))[1::2],
            [[30] + list(range(1, 31)), [29] + [k for k in range(1, 31) if k != 7], [30] + list(range(1, 31))],
        )

    def test_every_leaf_is_gone(self):
        tears = [tear(k) for k in range(30, 0, -1)]
        self.assertEqual(ask(book(30), *tears, rid(1830), rid(1829), rid(0), rid(1831))[31:], [[0], [-6], [-6], [-1]])


class RidTest(unittest.TestCase):
    def test_nothing_torn_out(self):
        self.assertEqual(
            ask(rid(3), rid(10), rid(18), rid(39), rid(42), rid(105), rid(210)),
            [[1, 1], [2, 1, 2], [2, 1, 4], [1, 10], [2, 1, 10], [3, 8, 9, 10], [10] + list(range(1, 11))],
        )

    def test_some_torn_out(self):
        # Two leaves that add up to 11 have the sum 42.
        self.assertEqual(ask(tear(10), rid(42))[1], [1, 1])
        self.assertEqual(ask(tear(1), rid(42))[1], [1, 10])
        self.assertEqual(ask(tear(5), rid(42))[1], [1, 6])

    def test_of_the_leaves_that_are_not_torn_out_alone(self):
        # With 1 and 2 gone 42 is lacking to 52: 1 and 10, or 2 and 9, would be before 3 and 8.
        self.assertEqual(ask(tear(1), tear(2), rid(52))[2], [2, 3, 8])
        # 31 is lacking to 62, which the leaf 8 alone has.
        self.assertEqual(ask(tear(8), rid(62))[1], [-6])

    def test_a_sum_that_is_there(self):
        self.assertEqual(ask(rid(0), tear(4), rid(15), tear(9), rid(50)), [[0], [7, 8], [0], [17, 18], [0]])

    def test_a_sum_below_that_of_what_is_torn_out(self):
        self.assertEqual(ask(tear(4), rid(0), rid(3), rid(14), rid(15))[1:], [[-6], [-6], [-6], [0]])

    def test_a_sum_that_can_not_be(self):
        self.assertEqual(
            ask(rid(1), rid(2), rid(4), rid(206), rid(209), rid(211), rid(1830)),
            [[-6]] * 7,
        )
        self.assertEqual(
            ask(book(3), tear(2), rid(14), rid(10), rid(13), rid(18), rid(21))[2:],
            [[-6], [1, 1], [-6], [1, 3], [2, 1, 3]],
        )

    def test_fewest_before_first(self):
        # 105 can be by the leaves 1 to 7 too, which would be the first set.
        self.assertEqual(ask(numbers(105), rid(105)), [[2, 3, 7], [3, 8, 9, 10]])

    def test_refuses_what_is_above(self):
        for n in (1, 10, 29, 30):
            self.assertEqual(
                ask(book(n), rid(1831), rid(LARGEST), tear(1), rid(1831), rid(1832), rid(LARGEST))[1:],
                [[-1], [-1], [1, 2], [-1], [-1], [-1]],
            )

    def test_tears_out_nothing(self):
        self.assertEqual(
            ask(tear(5), tear(2), rid(26), rid(65), rid(210), rid(1), rid(1831), shows(), sums(), gaps(), rid(65))[2:],
            [
                [0], [1, 10], [8, 1, 3, 4, 6, 7, 8, 9, 10], [-6], [-1],
                [2, 2, 5], [26, 184], [2, 3, 4, 9, 10], [1, 10],
            ],
        )

    def test_behind_put_and_a_new_book(self):
        self.assertEqual(
            ask(tear(1), rid(42), put(1), rid(42), tear(10), book(11), rid(42), rid(43), book(9), rid(39), rid(42)),
            [[1, 2], [1, 10], [1, 2], [2, 1, 10], [19, 20], [22], [2, 1, 10], [1, 11], [18], [-6], [2, 2, 9]],
        )


if __name__ == "__main__":
    unittest.main()
