"""Promise 4, of pieces: leaves one behind another, of the whole book, that have a sum."""

import unittest

from calls import LARGEST, ask, ask_many, book, pages_sum, pieces, put, shows, sums, tear


def pieces_by_sum(n):
    """Found by going through all pieces, by their first leaves: the ends of each, for each sum."""
    found = {}
    for low in range(1, n + 1):
        for high in range(low, n + 1):
            found.setdefault(pages_sum(range(low, high + 1)), []).append((low, high))
    return found


class PiecesTest(unittest.TestCase):
    def test_every_sum_of_every_book(self):
        for n in range(1, 31):
            found = pieces_by_sum(n)
            asked = range(min(n * (2 * n + 1) + 9, 1831))
            told = ask_many([book(n)], [pieces(s) for s in asked])
            for s, answered in zip(asked, told):
                ends = found.get(s, [])
                self.assertEqual(answered, [len(ends)] + [leaf for piece in ends for leaf in piece], (n, s))

    def test_none_one_and_several(self):
        self.assertEqual(
            ask(pieces(0), pieces(1), pieces(3), pieces(10), pieces(14), pieces(21), pieces(18), pieces(105)),
            [[0], [0], [1, 1, 1], [1, 1, 2], [0], [1, 1, 3], [1, 2, 3], [2, 1, 7, 8, 10]],
        )

    def test_by_their_first_leaves(self):
        several = [ends for ends in pieces_by_sum(30).values() if len(ends) > 1]
        self.assertGreater(len(several), 0)
        for ends in several:
            s = pages_sum(range(ends[0][0], ends[0][1] + 1))
            answered = ask(book(30), pieces(s))[1]
            self.assertEqual(answered[0], len(ends))
            self.assertEqual(answered[1::2], sorted(answered[1::2]))
            for low, high in zip(answered[1::2], answered[2::2]):
                self.assertEqual(pages_sum(range(low, high + 1)), s)

    def test_one_leaf_alone(self):
        self.assertEqual(
            ask(book(2), pieces(3), pieces(7), pieces(10), book(1), pieces(3), pieces(7)),
            [[4], [1, 1, 1], [1, 2, 2], [1, 1, 2], [2], [1, 1, 1], [0]],
        )

    def test_the_whole_book(self):
        for n in range(1, 31):
            answered = ask(book(n), pieces(n * (2 * n + 1)))[1]
            self.assertEqual(answered, [1, 1, n])

    def test_no_leaves_are_no_piece(self):
        for n in range(1, 31):
            self.assertEqual(ask(book(n), pieces(0))[1], [0])

    def test_the_largest_sum(self):
        self.assertEqual(ask(book(30), pieces(1830), book(29), pieces(1830)), [[60], [1, 1, 30], [58], [0]])

    def test_refuses_what_is_above(self):
        for n in (1, 10, 29, 30):
            self.assertEqual(ask(book(n), pieces(1831), pieces(1832), pieces(LARGEST))[1:], [[-1]] * 3)

    def test_whatever_is_torn_out(self):
        asked = [pieces(3), pieces(105), pieces(210), pieces(39)]
        untouched = ask(*asked)
        tears = [tear(k) for k in range(10, 0, -1)]
        self.assertEqual(ask(tear(2), tear(9), *asked)[2:], untouched)
        self.assertEqual(ask(*tears, *asked)[10:], untouched)
        self.assertEqual(ask(tear(9), put(9), *asked)[2:], untouched)

    def test_changes_nothing(self):
        self.assertEqual(
            ask(tear(5), tear(2), pieces(105), pieces(4), pieces(1831), shows(), sums())[2:],
            [[2, 1, 7, 8, 10], [0], [-1], [2, 2, 5], [26, 184]],
        )


if __name__ == "__main__":
    unittest.main()
