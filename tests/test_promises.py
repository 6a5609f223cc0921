"""The promises straight from their words, over many small texts."""

import unittest
from functools import lru_cache

from helper import all_ways, apply, ask_all, ask_bytes, back, cost, lines_of, patch, patch_of, small_texts

TEXTS = small_texts((b"x", b"y"), 4)


@lru_cache(maxsize=None)
def ways_of_signs(a, b):
    return all_ways(a, b)


def ways_between(a, b):
    """All ways hang on which lines are the same alone: so the lines are named by numbers first."""
    names = {}
    named = [tuple(names.setdefault(line, len(names)) for line in lines_of(data)) for data in (a, b)]
    return ways_of_signs(*named)


def number_at(data, at):
    return int.from_bytes(data[at:at + 4], "little")


def runs_of_patch(data):
    runs = []
    at = 8
    for _ in range(number_at(data, 4)):
        size = number_at(data, at + 8)
        runs.append((number_at(data, at), number_at(data, at + 4), data[at + 12:at + 12 + size]))
        at += 12 + size
    if patch_of(*runs) != data:
        raise AssertionError("a patch is its head, its number of runs, and these")
    return runs


def way_of_patch(a, data):
    """Of the orders in which a run's steps may stand the first, drops ahead of takes."""
    way = ""
    at = 0
    for first, dropped, taken in runs_of_patch(data):
        way += "K" * (first - at) + "D" * dropped + "T" * len(lines_of(taken))
        at = first + dropped
    return way + "K" * (len(lines_of(a)) - at)


def order(way):
    return way.replace("K", "A")


class FirstPromiseTest(unittest.TestCase):
    def test_a_becomes_b_and_a_again(self):
        for a in TEXTS:
            patches = [answer.bytes for answer in ask_all(*[patch(a, b) for b in TEXTS])]
            there = ask_all(*[apply(a, p) for p in patches])
            self.assertEqual([answer.bytes for answer in there], TEXTS)
            turned = [answer.bytes for answer in ask_all(*[back(a, p) for p in patches])]
            again = ask_all(*[apply(b, p) for b, p in zip(TEXTS, turned)])
            self.assertEqual([answer.bytes for answer in again], [a] * len(TEXTS))

    def test_no_way_has_fewer_lines_and_none_of_so_few_stands_before_it(self):
        for a in TEXTS:
            for b in TEXTS:
                way = way_of_patch(a, ask_bytes(patch(a, b)))
                ways = ways_between(a, b)
                self.assertIn(way, ways, (a, b))
                self.assertEqual(cost(way), min(cost(other) for other in ways), (a, b))
                self.assertEqual(order(way), min(order(other) for other in ways if cost(other) == cost(way)), (a, b))


if __name__ == "__main__":
    unittest.main()
