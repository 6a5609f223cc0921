import unittest

from helper import (NONE, HistoryModel, ask, ask_all, ask_behind, base, begin, chance_history, history_of, load, parents,
                    put, save, text, whence)


def six_calls(history):
    return [put(history, 0, 0, b"x\n"), text(history, 0), parents(history, 0), base(history, 0, 0), whence(history, 0),
            save(history)]


class NoHistoryThereTest(unittest.TestCase):
    def test_above_3(self):
        begun = [begin(number) for number in range(4)] + [put(number, 0, 0, b"x\n") for number in range(4)]
        for number in (4, 5, 255, 256, 65535):
            for call in six_calls(number):
                self.assertEqual(ask(call).all(), (-1, b"", [], (0, 0)), call)
                self.assertEqual(ask_behind(begun, call).all(), (-1, b"", [], (0, 0)), call)

    def test_never_begun_or_loaded(self):
        for number in range(4):
            others = [begin(other) for other in range(4) if other != number]
            refused = [load(number, b"no history"), put(number, 0, 0, b"")]
            for call in six_calls(number):
                self.assertEqual(ask(call).all(), (-3, b"", [], (0, 0)), call)
                self.assertEqual(ask_behind(others, call).all(), (-3, b"", [], (0, 0)), call)
                self.assertEqual(ask_behind(refused, call).all(), (-3, b"", [], (0, 0)), call)

    def test_it_comes_ahead_of_a_version_that_is_not_there(self):
        for number, refusal in ((0, -3), (3, -3), (4, -1), (65535, -1)):
            for call in (text(number, 7), parents(number, 7), base(number, 0, 7), base(number, 7, 0), whence(number, 7),
                         put(number, 7, 0, b""), put(number, 7, 8, b"")):
                self.assertEqual(ask(call).number, refusal, call)

    def test_all_are_there_once_begun_or_loaded(self):
        for number in range(4):
            for first in (begin(number), load(number, history_of())):
                numbers = [answer.number for answer in ask_all(first, *six_calls(number))]
                self.assertEqual(numbers, [0, 0, 2, 0, 0, 1, 22])

    def test_no_history_is_begun_at_the_beginning_of_a_list(self):
        self.assertEqual(ask_all(begin(0), put(0, 0, 0, b"x"))[1].number, 0)
        self.assertEqual(ask(save(0)).number, -3)
        self.assertEqual(ask(put(0, 0, 0, b"x")).number, -3)
        self.assertEqual([answer.number for answer in ask_all(begin(0), put(0, 0, 0, b"x"))], [0, 0])


class FourHistoriesTest(unittest.TestCase):
    def check_all(self, calls, history, model):
        asked = model.questions(history)
        answered = ask_all(*calls, *asked)[-len(asked):]
        self.assertEqual([answer.all() for answer in answered], model.replies())

    def test_they_stand_apart(self):
        models = [chance_history(seed, 6, (b"x", b"y", b"z")) for seed in range(4)]
        calls = [begin(number) for number in range(4)]
        for turn in range(6):
            calls += [models[number].puts(number)[turn] for number in (2, 0, 3, 1)]
        for number in range(4):
            self.check_all(calls, number, models[number])

    def test_begin_puts_a_new_one_in_the_place_of_another(self):
        old = chance_history(11, 6, (b"x", b"y"))
        new = chance_history(12, 4, (b"x", b"y"))
        calls = [begin(1), begin(2)] + old.puts(1) + old.puts(2) + [whence(1, 5), begin(1)]
        self.check_all(calls, 1, HistoryModel([]))
        self.check_all(calls, 2, old)
        self.assertEqual(ask_behind(calls, text(1, 0)).number, -4)
        self.check_all(calls + new.puts(1), 1, new)
        self.check_all(calls + new.puts(1), 2, old)

    def test_begin_makes_room_again(self):
        full = [begin(0)] + [put(0, 0, 0, b"")] * 64
        self.assertEqual(ask_behind(full, put(0, 0, 0, b"")).number, -3)
        self.assertEqual(ask_behind(full + [begin(0)], put(0, 0, 0, b"")).number, 0)
        much = [begin(0)] + [put(0, 0, 0, b"x" * 65536)] * 16
        self.assertEqual(ask_behind(much, put(0, 0, 0, b"x")).number, -3)
        self.assertEqual(ask_behind(much + [begin(0)], put(0, 0, 0, b"x")).number, 0)

    def test_load_puts_a_new_one_in_the_place_of_another(self):
        old = chance_history(13, 6, (b"x", b"y"))
        new = chance_history(14, 4, (b"x", b"y"))
        calls = [begin(1), begin(2)] + old.puts(1) + old.puts(2) + [whence(1, 5), load(1, new.bytes())]
        self.check_all(calls, 1, new)
        self.check_all(calls, 2, old)

    def test_a_refused_load_leaves_the_old_one(self):
        old = chance_history(15, 6, (b"x", b"y"))
        new = chance_history(16, 4, (b"x", b"y")).bytes()
        for data in (b"", new[:-1], new + b"x", b"SWVX" + new[4:], history_of((NONE, NONE, b"\n" * 2049)),
                     history_of((0, NONE, b""))):
            calls = [begin(1)] + old.puts(1)
            self.assertEqual(ask_behind(calls, load(1, data)).number, -6)
            self.check_all(calls + [load(1, data)], 1, old)

    def test_a_refused_begin_leaves_all(self):
        old = chance_history(17, 6, (b"x", b"y"))
        self.check_all([begin(1)] + old.puts(1) + [begin(4), load(5, history_of())], 1, old)

    def test_one_loaded_twice_is_two_histories(self):
        data = history_of((NONE, NONE, b"x\n"))
        calls = [load(0, data), load(1, data), put(0, 1, 0, b"y\n")]
        self.assertEqual(ask_behind(calls, text(0, 1)).bytes, b"y\n")
        self.assertEqual(ask_behind(calls, text(1, 1)).number, -4)
        self.assertEqual(ask_behind(calls, save(1)).bytes, data)


if __name__ == "__main__":
    unittest.main()
