import unittest

from helper import ask_all, ask_behind, begin, chance_history, lines_of, put, whence

SIGNS = ((b"x", b"y"), (b"1", b"2", b"3", b"4", b"5", b"6"), (b"", b"a", b"aa"))


def grown(*versions):
    return [begin(0)] + [put(0, *version) for version in versions]


class WhenceTest(unittest.TestCase):
    def check(self, versions, *origins):
        """The origins of the lines of the last version."""
        answer = ask_behind(grown(*versions), whence(0, len(versions) - 1))
        self.assertEqual(answer.all(), (len(origins), b"", list(origins), (0, 0)), versions)

    def test_the_empty_text(self):
        self.check([(0, 0, b"")])
        self.check([(0, 0, b"1\n2\n"), (1, 0, b"")])
        self.check([(0, 0, b"1\n"), (0, 0, b""), (1, 2, b"")])
        self.check([(0, 0, b""), (1, 0, b"1\n2\n")], 1, 1)

    def test_no_parent(self):
        self.check([(0, 0, b"1\n2\n3")], 0, 0, 0)
        self.check([(0, 0, b"1\n2\n"), (0, 0, b"1\n2\n")], 1, 1)

    def test_kept_from_the_first_parent_and_from_neither(self):
        self.check([(0, 0, b"1\n2\n3\n"), (1, 0, b"1\nx\n3\ny")], 0, 1, 0, 1)
        self.check([(0, 0, b"1\n2\n3\n"), (1, 0, b"1\n2\n3\n")], 0, 0, 0)
        self.check([(0, 0, b"1\n2\n3\n"), (1, 0, b"3\n")], 0)
        self.check([(0, 0, b"1\n"), (1, 0, b"x\n")], 1)

    def test_an_open_line_is_not_the_ended_one(self):
        self.check([(0, 0, b"1\n2"), (1, 0, b"1\n2\n")], 0, 1)
        self.check([(0, 0, b"1\n2\n"), (1, 0, b"1\n2")], 0, 1)

    def test_kept_from_the_second_parent_alone(self):
        both = [(0, 0, b"1\n2\n"), (0, 0, b"8\n9\n")]
        self.check(both + [(1, 2, b"1\n2\n8\n9\n")], 0, 0, 1, 1)
        self.check(both + [(2, 1, b"1\n2\n8\n9\n")], 0, 0, 1, 1)
        self.check(both + [(1, 2, b"8\n9\n")], 1, 1)
        self.check(both + [(1, 2, b"8\nx\n2\n")], 1, 2, 0)

    def test_the_first_parent_comes_ahead_of_the_second(self):
        same = [(0, 0, b"1\n2\n"), (0, 0, b"1\n2\n")]
        self.check(same + [(1, 2, b"1\n2\n")], 0, 0)
        self.check(same + [(2, 1, b"1\n2\n")], 1, 1)
        self.check([(0, 0, b"1\n2\n"), (0, 0, b"2\n3\n"), (1, 2, b"1\n2\n3\n")], 0, 0, 1)
        self.check([(0, 0, b"1\n2\n"), (0, 0, b"2\n3\n"), (2, 1, b"1\n2\n3\n")], 0, 1, 1)

    def test_how_it_differs_from_the_whole_of_the_second_parent_counts(self):
        # By how it differs from 3 2 1 the line 1 is kept there, the last y is not; 3 and 2 come from neither.
        self.check([(0, 0, b"y\n"), (0, 0, b"3\n2\n1\n"), (1, 2, b"1\n2\n3\ny\n")], 1, 2, 2, 0)
        # The line that the second parent keeps is one that the first has too: nothing else is looked for.
        self.check([(0, 0, b"x\n"), (0, 0, b"x\n"), (1, 2, b"x\nx\n")], 0, 2)

    def test_kept_through_several_versions(self):
        row = [(0, 0, b"1\n"), (1, 0, b"1\n2\n"), (2, 0, b"3\n1\n2\n"), (3, 0, b"3\n1\n2\n4\n")]
        self.check(row, 2, 0, 1, 3)
        self.check(row + [(4, 0, b"2\n4\n")], 1, 3)
        self.check(row + [(4, 0, b"2\n4\n"), (5, 0, b"1\n2\n4\n")], 5, 1, 3)

    def test_kept_through_second_parents(self):
        versions = [(0, 0, b"1\n"), (1, 0, b"1\n2\n"), (0, 0, b"7\n"), (3, 2, b"7\n1\n2\n"), (0, 0, b"q\n")]
        self.check(versions[:4], 2, 0, 1)
        self.check(versions + [(5, 4, b"2\nq\n1\n7\n")], 1, 4, 5, 5)

    def test_a_line_that_was_dropped_and_taken_again_is_new(self):
        self.check([(0, 0, b"1\n2\n"), (1, 0, b"1\n"), (2, 0, b"1\n2\n")], 0, 2)

    def test_the_same_line_several_times(self):
        self.check([(0, 0, b"x\n"), (1, 0, b"x\nx\n"), (2, 0, b"x\nx\nx\n")], 0, 1, 2)
        self.check([(0, 0, b"x\n"), (1, 0, b"y\nx\n"), (2, 0, b"x\nx\n")], 0, 2)
        self.check([(0, 0, b"x\n"), (1, 0, b"x\nx\n"), (2, 0, b"x\n")], 0)
        self.check([(0, 0, b"x\ny\n"), (1, 0, b"y\nx\n")], 0, 1)

    def test_no_such_version(self):
        for v in (0, 1, 65535):
            self.assertEqual(ask_behind([begin(0)], whence(0, v)).all(), (-4, b"", [], (0, 0)))
        for v in (1, 2, 64, 65535):
            self.assertEqual(ask_behind(grown((0, 0, b"x")), whence(0, v)).all(), (-4, b"", [], (0, 0)))

    def test_many_histories(self):
        for seed in range(60):
            model = chance_history(seed, 10, SIGNS[seed % 3])
            answered = ask_all(begin(0), *model.puts(0), *[whence(0, v) for v in range(10)])[11:]
            self.assertEqual([answer.list for answer in answered], [model.whence(v) for v in range(10)], seed)
            self.assertEqual([answer.number for answer in answered], [len(model.whence(v)) for v in range(10)])

    def test_a_version_that_has_the_line_and_is_an_ancestor(self):
        for seed in range(100, 160):
            model = chance_history(seed, 12, SIGNS[seed % 3])
            for v, answer in enumerate(ask_all(begin(0), *model.puts(0), *[whence(0, v) for v in range(12)])[13:]):
                lines = lines_of(model.versions[v][2])
                self.assertEqual(len(answer.list), len(lines))
                for line, origin in zip(lines, answer.list):
                    self.assertIn(origin, model.ancestors(v))
                    self.assertIn(line, lines_of(model.versions[origin][2]))

    def test_it_is_the_same_in_whatever_order_it_is_asked(self):
        model = chance_history(5, 12, SIGNS[1])
        calls = [begin(0)] + model.puts(0)
        rising = [answer.list for answer in ask_all(*calls, *[whence(0, v) for v in range(12)])[13:]]
        falling = [answer.list for answer in ask_all(*calls, *[whence(0, v) for v in range(11, -1, -1)])[13:]]
        self.assertEqual(rising, falling[::-1])
        twice = [answer.list for answer in ask_all(*calls, *[whence(0, v) for v in range(12)] * 2)[13:]]
        self.assertEqual(twice, rising * 2)

    def test_asked_between_puts(self):
        model = chance_history(6, 12, SIGNS[1])
        calls = [begin(0)]
        for v, call in enumerate(model.puts(0)):
            calls += [call, whence(0, v), whence(0, 0)]
        answered = ask_all(*calls)
        self.assertEqual([answer.list for answer in answered[2::3]], [model.whence(v) for v in range(12)])
        self.assertEqual([answer.list for answer in answered[3::3]], [model.whence(0)] * 12)


if __name__ == "__main__":
    unittest.main()
