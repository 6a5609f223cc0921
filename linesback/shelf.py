"""The calls: each is read from a list of whole numbers, and its answer is written into another."""

from linesback.fours import Fault
from linesback.histories import History
from linesback.lines import is_too_large, join_lines, split_lines
from linesback.merging import merge_three
from linesback.patches import patch_between, patch_bytes, patched, read_patch, turned_back
from linesback.saving import history_bytes, read_history
from linesback.ways import differing_runs

# By a call's number: its name, how many whole numbers it has, what its rows are.
CALLS = {
    0: ("differ", 0, ("text", "text")),
    1: ("patch", 0, ("text", "text")),
    2: ("apply", 0, ("text", "patch")),
    3: ("back", 0, ("text", "patch")),
    4: ("merge", 0, ("text", "text", "text")),
    5: ("begin", 1, ()),
    6: ("load", 1, ("history",)),
    7: ("put", 3, ("text",)),
    8: ("text", 2, ()),
    9: ("parents", 2, ()),
    10: ("base", 3, ()),
    11: ("whence", 2, ()),
    12: ("save", 1, ()),
}

LAST_HISTORY = 3
MOST_PATCH_BYTES = 131072
MOST_HISTORY_BYTES = 1200000

OUT_OF_RANGE = -1
WRONG_PARENTS = -1
TOO_LARGE = -2
NOT_BEGUN = -3
NO_ROOM = -3
NO_BASE = -3
NO_VERSION = -4
FAULTY = -6


class Call:
    def __init__(self, name, numbers, rows, has_too_large):
        self.name = name
        self.numbers = numbers
        self.rows = rows
        self.has_too_large = has_too_large


# What is handed out of the list is a copy, so that the list stays as it was handed in.
class CallReader:
    def __init__(self, calls):
        self.calls = calls
        self.at = 0

    def has_more(self):
        return self.at < len(self.calls)

    def read_numbers(self, count):
        self.at += count
        return self.calls[self.at - count:self.at]

    def read_number(self):
        return self.read_numbers(1)[0]

    def read_call(self):
        shape = CALLS[self.read_number()]
        numbers = self.read_numbers(shape[1])
        rows = []
        has_too_large = False
        for sort in shape[2]:
            row = self.read_numbers(self.read_number())
            has_too_large = has_too_large or exceeds(sort, row)
            rows.append(row)
        return Call(shape[0], numbers, rows, has_too_large)


def exceeds(sort, row):
    if sort == "text":
        return is_too_large(row)
    if sort == "patch":
        return len(row) > MOST_PATCH_BYTES
    return len(row) > MOST_HISTORY_BYTES


def full_answer(number, row, listed, kind, place):
    return [number, len(row)] + row + [len(listed)] + listed + [kind, place]


def number_answer(number):
    return full_answer(number, [], [], 0, 0)


def row_answer(row):
    return full_answer(len(row), row, [], 0, 0)


def list_answer(number, listed):
    return full_answer(number, [], listed, 0, 0)


def fault_answer(fault):
    return full_answer(FAULTY, [], [], fault.kind, fault.place)


def answer_differ(old, new):
    runs = differing_runs(old, new)
    listed = []
    for run in runs:
        listed.extend(run)
    return list_answer(len(runs), listed)


def answer_merge(base, ours, theirs):
    merged = merge_three(base, ours, theirs)
    return full_answer(len(merged.row), merged.row, [merged.clashes, merged.first_clash], 0, 0)


def answer_by_texts(name, texts):
    if name == "differ":
        return answer_differ(texts[0], texts[1])
    if name == "patch":
        return row_answer(patch_bytes(patch_between(texts[0], texts[1])))
    return answer_merge(texts[0], texts[1], texts[2])


def answer_by_patch(name, old, row):
    try:
        patch = read_patch(row, old)
    except Fault as fault:
        return fault_answer(fault)
    if name == "apply":
        return row_answer(join_lines(patched(old, patch)))
    return row_answer(patch_bytes(turned_back(old, patch)))


# In the calls a parent is a version's number and 1 more, and 0 stands for none.
def parent_from_call(number):
    return None if number == 0 else number - 1


def parent_for_answer(parent):
    return 0 if parent is None else parent + 1


def answer_put(history, first, second, row):
    if second > 0 and first in (0, second):
        return number_answer(WRONG_PARENTS)
    if max(first, second) > len(history.versions):
        return number_answer(NO_VERSION)
    if history.is_full():
        return number_answer(NO_ROOM)
    version = history.make_version(parent_from_call(first), parent_from_call(second), split_lines(row))
    if not history.has_room_for(len(version.kept)):
        return number_answer(NO_ROOM)
    history.add_version(version)
    return number_answer(len(history.versions) - 1)


def answer_parents(version):
    return list_answer(0, [parent_for_answer(version.first_parent), parent_for_answer(version.second_parent)])


def answer_base(history, number, other):
    base = history.base_of(number, other)
    return number_answer(NO_BASE if base is None else base)


def answer_whence(history, number):
    origins = history.whence(number)
    return list_answer(len(origins), origins)


def answer_of_versions(name, history, numbers):
    if max(numbers) >= len(history.versions):
        return number_answer(NO_VERSION)
    if name == "text":
        return row_answer(join_lines(history.versions[numbers[0]].lines))
    if name == "parents":
        return answer_parents(history.versions[numbers[0]])
    if name == "base":
        return answer_base(history, numbers[0], numbers[1])
    return answer_whence(history, numbers[0])


def answer_by_history(call, history):
    if call.name == "put":
        return answer_put(history, call.numbers[1], call.numbers[2], call.rows[0])
    if call.name == "save":
        return row_answer(history_bytes(history))
    return answer_of_versions(call.name, history, call.numbers[1:])


class Shelf:
    def __init__(self):
        self.histories = {}

    def answer(self, call):
        if call.has_too_large:
            return number_answer(TOO_LARGE)
        if call.name in ("differ", "patch", "merge"):
            return answer_by_texts(call.name, [split_lines(row) for row in call.rows])
        if call.name in ("apply", "back"):
            return answer_by_patch(call.name, split_lines(call.rows[0]), call.rows[1])
        return self.answer_on_history(call, call.numbers[0])

    def answer_on_history(self, call, number):
        if number > LAST_HISTORY:
            return number_answer(OUT_OF_RANGE)
        if call.name == "begin":
            return self.begin(number)
        if call.name == "load":
            return self.load(number, call.rows[0])
        if number not in self.histories:
            return number_answer(NOT_BEGUN)
        return answer_by_history(call, self.histories[number])

    def begin(self, number):
        self.histories[number] = History()
        return number_answer(0)

    def load(self, number, row):
        # Read whole before anything is put: a refused load changes nothing.
        try:
            history = read_history(row)
        except Fault as fault:
            return fault_answer(fault)
        self.histories[number] = history
        return number_answer(0)


def answers(calls):
    reader = CallReader(calls)
    shelf = Shelf()
    answered = []
    while reader.has_more():
        answer = shelf.answer(reader.read_call())
        answered.append(len(answer))
        answered.extend(answer)
    return answered
