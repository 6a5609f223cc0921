import unittest

from helper import NONE, HistoryModel, ask_all, ask_behind, begin, chance_history, history_of, load, patch_of, put, save


class SaveTest(unittest.TestCase):
    def check(self, versions, data):
        calls = [begin(3)] + HistoryModel(versions).puts(3)
        self.assertEqual(ask_behind(calls, save(3)).all(), (len(data), data, [], (0, 0)))

    def test_no_version(self):
        self.check([], b"SWVH\0\0\0\0")

    def test_one_version(self):
        self.check([(0, 0, b"")], b"SWVH\1\0\0\0" b"\xff\xff\xff\xff\xff\xff\xff\xff\0\0\0\0")
        self.check([(0, 0, b"x\ny")], b"SWVH\1\0\0\0" b"\xff\xff\xff\xff\xff\xff\xff\xff\3\0\0\0x\ny")

    def test_several_versions(self):
        self.check([(0, 0, b"1\n2\n"), (1, 0, b"1\nx\n"), (0, 0, b"1\n"), (2, 0, b"1\nx\n")],
                   history_of((NONE, NONE, b"1\n2\n"), (0, NONE, patch_of((1, 1, b"x\n"))), (NONE, NONE, b"1\n"),
                              (1, NONE, patch_of())))

    def test_second_parents(self):
        # The patch is the one from the first parent, whichever number that has.
        self.check([(0, 0, b"1\n"), (0, 0, b"2\n"), (1, 2, b"1\n2\n"), (2, 1, b"1\n2\n")],
                   history_of((NONE, NONE, b"1\n"), (NONE, NONE, b"2\n"), (0, 1, patch_of((1, 0, b"2\n"))),
                              (1, 0, patch_of((0, 0, b"1\n")))))

    def test_64_versions(self):
        versions = [(v, v - 1 if v > 1 else 0, b"%d\n" % (v // 2)) for v in range(64)]
        self.check(versions, HistoryModel(versions).bytes())

    def test_numbers_have_the_lowest_byte_first(self):
        data = b"\n" * 700 + b"q" * 60000
        self.check([(0, 0, data), (1, 0, data + b"\n")],
                   history_of((NONE, NONE, data), (0, NONE, patch_of((700, 1, b"q" * 60000 + b"\n")))))


class SavedAndLoadedTest(unittest.TestCase):
    def check_all(self, model, calls, history):
        asked = model.questions(history)
        answered = ask_all(*calls, *asked)[-len(asked):]
        self.assertEqual([answer.all() for answer in answered], model.replies())

    def check_same(self, model):
        """Every answer as by the model; then loaded into each of the others, and all asked again."""
        calls = [begin(0)] + model.puts(0)
        self.check_all(model, calls, 0)
        saved = ask_behind(calls, save(0)).bytes
        for number in range(4):
            self.check_all(model, [load(number, saved)], number)
            self.check_all(model, calls + [load(number, saved)], number)

    def test_no_version_and_one(self):
        self.check_same(HistoryModel([]))
        for data in (b"", b"\n", b"x", b"x\ny\n"):
            self.check_same(HistoryModel([(0, 0, data)]))

    def test_several_with_second_parents(self):
        self.check_same(HistoryModel([(0, 0, b"1\n2\n"), (1, 0, b"1\nx\n"), (1, 0, b"1\n2\n3"), (2, 3, b"1\nx\n3"),
                                      (0, 0, b""), (5, 4, b"3\nx\n"), (4, 0, b"")]))

    def test_many_histories(self):
        for seed in range(200, 230):
            self.check_same(chance_history(seed, 7, (b"x", b"y", b"z", b"")))

    def test_a_loaded_history_goes_on_like_the_saved_one(self):
        for seed in range(230, 250):
            whole = chance_history(seed, 9, (b"x", b"y", b"z"))
            begun = HistoryModel(whole.versions[:5])
            rest = whole.puts(2)[5:]
            self.check_all(whole, [load(2, begun.bytes())] + rest, 2)

    def test_a_saved_history_stays_as_it_was(self):
        model = chance_history(1, 8, (b"x", b"y"))
        calls = [begin(0)] + model.puts(0)
        answered = ask_all(*calls, save(0), save(0), *model.questions(0), save(0))
        self.assertEqual(answered[9].all(), answered[10].all())
        self.assertEqual(answered[9].all(), answered[-1].all())


if __name__ == "__main__":
    unittest.main()
