"""Short ways to write calls and to read what is answered."""

from tornleaves.book import answers

LARGEST = 4294967295


def book(n):
    return [0, n]


def tear(k):
    return [1, k]


def put(k):
    return [2, k]


def shows():
    return [3]


def sums():
    return [4]


def can(m, s):
    return [5, m, s]


def first(m, s):
    return [6, m, s]


def ways(m, s):
    return [7, m, s]


def numbers(s):
    return [8, s]


def all_sets(s):
    return [9, s]


def pieces(s):
    return [10, s]


def gaps():
    return [11]


def rid(s):
    return [12, s]


def pages_sum(leaves):
    """The sum of the leaves' pages, page by page."""
    return sum(2 * k - 1 + 2 * k for k in leaves)


def flat(calls):
    return [number for call in calls for number in call]


def ask(*calls):
    """The answers to these calls on one new book, one list each."""
    given_back = answers(flat(calls))
    split = []
    place = 0
    while place < len(given_back):
        behind = place + 1 + given_back[place]
        if behind > len(given_back):
            raise AssertionError(f"a count is beyond the end: {given_back}")
        split.append(given_back[place + 1:behind])
        place = behind
    if len(split) != len(calls):
        raise AssertionError(f"{len(calls)} calls, {len(split)} answers: {given_back}")
    return split


def ask_many(before, calls):
    """The answers to the calls, each line of them at most 40 and behind the same calls as every other."""
    told = []
    room = 40 - len(before)
    for start in range(0, len(calls), room):
        told.extend(ask(*before, *calls[start:start + room])[len(before):])
    return told
