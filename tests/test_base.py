import unittest

from helper import HistoryModel, ask_all, ask_behind, base, begin, chance_history, put


def grown(*pairs):
    """Calls that put a version for each pair of parents."""
    return [begin(0)] + [put(0, p, q, b"") for p, q in pairs]


class BaseTest(unittest.TestCase):
    def check(self, calls, u, v, number):
        for call in (base(0, u, v), base(0, v, u)):
            self.assertEqual(ask_behind(calls, call).all(), (number, b"", [], (0, 0)), call)

    def test_the_same_version_twice(self):
        calls = grown((0, 0), (1, 0), (0, 0), (2, 3))
        for v in range(4):
            self.check(calls, v, v, v)

    def test_an_ancestor_of_the_other(self):
        row = grown((0, 0), (1, 0), (2, 0), (3, 0))
        for u in range(4):
            for v in range(u, 4):
                self.check(row, u, v, u)
        by_second = grown((0, 0), (0, 0), (1, 2))
        self.check(by_second, 0, 2, 0)
        self.check(by_second, 1, 2, 1)

    def test_two_from_one(self):
        calls = grown((0, 0), (1, 0), (2, 0), (2, 0), (4, 0))
        self.check(calls, 2, 3, 1)
        self.check(calls, 2, 4, 1)

    def test_the_greatest_number_of_several_in_common(self):
        # Versions 2 and 3 both come from 0 and from 1, by parents the other way about.
        calls = grown((0, 0), (0, 0), (1, 2), (2, 1))
        self.check(calls, 2, 3, 1)
        # 5 comes from 1 and from 3; 4 has both among its ancestors, 1 by its first parent and 3 by its second.
        calls = grown((0, 0), (0, 0), (1, 0), (2, 0), (2, 4), (4, 0))
        self.check(calls, 4, 5, 3)
        # The greatest number, however many steps away it is.
        calls = grown((0, 0), (0, 0), (2, 0), (3, 0), (1, 4), (1, 3))
        self.check(calls, 4, 5, 2)

    def test_none(self):
        calls = grown((0, 0), (0, 0), (1, 0), (2, 0), (3, 1))
        for u, v in ((0, 1), (2, 1), (2, 3), (4, 1), (4, 3)):
            self.check(calls, u, v, -3)

    def test_a_version_that_has_a_common_descendant_is_no_base(self):
        self.check(grown((0, 0), (0, 0), (1, 2)), 0, 1, -3)

    def test_one_that_is_not_there(self):
        calls = grown((0, 0), (0, 0))
        for v in (2, 3, 64, 65535):
            self.check(calls, 0, v, -4)
            self.check(calls, 1, v, -4)
            self.check(calls, v, v, -4)
        self.check([begin(0)], 0, 0, -4)
        self.check([begin(0)], 0, 1, -4)

    def test_the_most_ancestors(self):
        # Each has the two before it as parents: there are very many paths from the last to the first.
        pairs = [(0, 0), (0, 0)] + [(v, v - 1) for v in range(2, 62)] + [(1, 2), (1, 0)]
        calls = grown(*pairs)
        self.check(calls, 61, 60, 60)
        self.check(calls, 61, 62, 1)
        self.check(calls, 61, 63, 0)

    def test_many_histories(self):
        for seed in range(40):
            model = chance_history(seed, 9, (b"x",))
            model = HistoryModel([(p, q, b"") for p, q, data in model.versions])
            asked = [base(0, u, v) for u in range(9) for v in range(9)]
            answered = ask_all(begin(0), *model.puts(0), *asked)[10:]
            self.assertEqual([answer.number for answer in answered],
                             [model.base(u, v) for u in range(9) for v in range(9)])


if __name__ == "__main__":
    unittest.main()
