"""What the tests share: calls as lists of numbers, answers read back, and slow but plain models of the words."""

import random
from itertools import product

from linesback.shelf import answers

NONE = 0xFFFFFFFF
PATCH_HEAD = b"\x53\x57\x56\x31"
HISTORY_HEAD = b"\x53\x57\x56\x48"


def row(data):
    return [len(data)] + list(data)


def differ(a, b):
    return [0] + row(a) + row(b)


def patch(a, b):
    return [1] + row(a) + row(b)


def apply(a, p):
    return [2] + row(a) + row(p)


def back(a, p):
    return [3] + row(a) + row(p)


def merge(o, a, b):
    return [4] + row(o) + row(a) + row(b)


def begin(history):
    return [5, history]


def load(history, data):
    return [6, history] + row(data)


def put(history, p, q, data):
    return [7, history, p, q] + row(data)


def text(history, v):
    return [8, history, v]


def parents(history, v):
    return [9, history, v]


def base(history, u, v):
    return [10, history, u, v]


def whence(history, v):
    return [11, history, v]


def save(history):
    return [12, history]


class Answer:
    """One answer, taken apart as the interface says it stands."""

    def __init__(self, numbers):
        if any(isinstance(n, bool) or not isinstance(n, int) for n in numbers):
            raise AssertionError("an answer holds whole numbers alone")
        self.number = numbers[0]
        ends = 2 + numbers[1]
        self.bytes = bytes(numbers[2:ends])
        listed = ends + 1 + numbers[ends]
        self.list = numbers[ends + 1:listed]
        self.fault = tuple(numbers[listed:])
        if len(self.fault) != 2:
            raise AssertionError("an answer ends with the fault's kind and place")

    def all(self):
        return (self.number, self.bytes, self.list, self.fault)


def take_apart(answered):
    found = []
    at = 0
    while at < len(answered):
        size = answered[at]
        found.append(Answer(answered[at + 1:at + 1 + size]))
        at += 1 + size
    if at != len(answered):
        raise AssertionError("the last answer is cut off")
    return found


def ask_all(*calls):
    found = take_apart(answers(sum(calls, [])))
    if len(found) != len(calls):
        raise AssertionError("each call has one answer")
    return found


def ask_behind(calls, call):
    """What is answered to the call that comes behind others."""
    return ask_all(*calls, call)[-1]


def ask(call):
    found = take_apart(answers(call))
    if len(found) != 1:
        raise AssertionError("one call has one answer")
    return found[0]


def ask_bytes(call):
    answer = ask(call)
    if answer.number != len(answer.bytes) or answer.fault != (0, 0):
        raise AssertionError("bytes come with how many they are, and no fault")
    return answer.bytes


def four(number):
    return number.to_bytes(4, "little")


def patch_of(*runs, count=None):
    """A patch's bytes out of runs (from which line, how many dropped, taken bytes)."""
    data = PATCH_HEAD + four(len(runs) if count is None else count)
    for first, dropped, taken in runs:
        data += four(first) + four(dropped) + four(len(taken)) + taken
    return data


def history_of(*versions, count=None):
    """A history's bytes out of versions (first parent, second parent, kept bytes)."""
    data = HISTORY_HEAD + four(len(versions) if count is None else count)
    for first, second, kept in versions:
        data += four(first) + four(second) + four(len(kept)) + kept
    return data


def lines_of(text):
    return [part + b"\n" for part in text.split(b"\n")[:-1]] + [part for part in text.split(b"\n")[-1:] if part]


def small_texts(signs, most_lines):
    """All texts of so many lines at the most, each line one sign, the last one with and without a line end."""
    texts = [b""]
    for count in range(1, most_lines + 1):
        for chosen in product(signs, repeat=count):
            text = b"".join(sign + b"\n" for sign in chosen)
            texts += [text, text[:-1]]
    return texts


def chance_text(chance, signs, most_lines):
    text = b"".join(chance.choice(signs) + b"\n" for _ in range(chance.randrange(most_lines + 1)))
    return text[:-1] if chance.randrange(4) == 0 else text


def chance_texts(seed, how_many, signs, most_lines, together):
    chance = random.Random(seed)
    return [tuple(chance_text(chance, signs, most_lines) for _ in range(together)) for _ in range(how_many)]


def all_ways(a, b):
    """Every way from a to b, a step being K, D or T."""
    if not a and not b:
        return [""]
    ways = []
    if a and b and a[0] == b[0]:
        ways += ["K" + way for way in all_ways(a[1:], b[1:])]
    if a:
        ways += ["D" + way for way in all_ways(a[1:], b)]
    if b:
        ways += ["T" + way for way in all_ways(a, b[1:])]
    return ways


def cost(way):
    return way.count("D") + way.count("T")


def first_way_of_all(a, b):
    """By looking at every way. K is read as A, so that the letters stand in the order of the steps."""
    return min(all_ways(a, b), key=lambda way: (cost(way), way.replace("K", "A")))


def first_way(a, b):
    """By a table of the fewest steps from each place to the ends."""
    fewest = [[0] * (len(b) + 1) for _ in range(len(a) + 1)]
    for i in range(len(a), -1, -1):
        for j in range(len(b), -1, -1):
            options = []
            if i < len(a) and j < len(b) and a[i] == b[j]:
                options.append(fewest[i + 1][j + 1])
            if i < len(a):
                options.append(fewest[i + 1][j] + 1)
            if j < len(b):
                options.append(fewest[i][j + 1] + 1)
            fewest[i][j] = min(options, default=0)
    way = ""
    i = j = 0
    while i < len(a) or j < len(b):
        if i < len(a) and j < len(b) and a[i] == b[j] and fewest[i + 1][j + 1] == fewest[i][j]:
            step, i, j = "K", i + 1, j + 1
        elif i < len(a) and fewest[i + 1][j] + 1 == fewest[i][j]:
            step, i = "D", i + 1
        else:
            step, j = "T", j + 1
        way += step
    return way


def runs_of_way(way):
    runs = []
    i = j = 0
    within = False
    for step in way:
        if step == "K":
            i, j, within = i + 1, j + 1, False
            continue
        if not within:
            runs.append([i, 0, j, 0])
            within = True
        if step == "D":
            runs[-1][1] += 1
            i += 1
        else:
            runs[-1][3] += 1
            j += 1
    return runs


def kept_of_way(way):
    kept = {}
    i = j = 0
    for step in way:
        if step == "K":
            kept[i] = j
        i += step in "KD"
        j += step in "KT"
    return kept


def places_of(o, a, b):
    """The places of a merge as triples of stretches, and the still lines behind each but the last."""
    o, a, b = lines_of(o), lines_of(a), lines_of(b)
    in_a = kept_of_way(first_way(o, a))
    in_b = kept_of_way(first_way(o, b))
    still = [i for i in range(len(o)) if i in in_a and i in in_b]
    starts = [(0, 0, 0)] + [(i + 1, in_a[i] + 1, in_b[i] + 1) for i in still]
    ends = [(i, in_a[i], in_b[i]) for i in still] + [(len(o), len(a), len(b))]
    places = [(o[s[0]:e[0]], a[s[1]:e[1]], b[s[2]:e[2]]) for s, e in zip(starts, ends)]
    return places, [o[i] for i in still]


def marked(text, mark):
    return text + (b"\n" if text and not text.endswith(b"\n") else b"") + mark + b"\n"


def merged_model(o, a, b):
    """Merged bytes, how many clashes, where the first mark begins."""
    places, still = places_of(o, a, b)
    text, clashes, first = b"", 0, 0
    for (of_o, of_a, of_b), behind in zip(places, still + [b""]):
        if of_a == of_o:
            text += b"".join(of_b)
        elif of_b == of_o or of_a == of_b:
            text += b"".join(of_a)
        else:
            text = marked(text, b"<" * 7)
            first = first if clashes else len(text) - 8
            clashes += 1
            text = marked(text + b"".join(of_a), b"=" * 7)
            text = marked(text + b"".join(of_b), b">" * 7)
        text += behind
    return text, clashes, first


def patch_model(a, b):
    runs = runs_of_way(first_way(lines_of(a), lines_of(b)))
    taken = lines_of(b)
    return patch_of(*[(i, d, b"".join(taken[j:j + t])) for i, d, j, t in runs])


class HistoryModel:
    """Versions (p, q, text), p and q as put has them; each question is answered straight from the words."""

    def __init__(self, versions):
        self.versions = list(versions)
        self.known = {}

    def puts(self, history):
        return [put(history, *version) for version in self.versions]

    def ancestors(self, v):
        found = {v}
        for parent in self.versions[v][:2]:
            if parent:
                found |= self.ancestors(parent - 1)
        return found

    def base(self, u, v):
        return max(self.ancestors(u) & self.ancestors(v), default=-3)

    def kept_from(self, parent, v):
        """By the number of a line of v the number of the parent's line that is kept."""
        way = first_way(lines_of(self.versions[parent][2]), lines_of(self.versions[v][2]))
        return {j: i for i, j in kept_of_way(way).items()}

    def find_whence(self, v):
        sources = [(self.whence(p - 1), self.kept_from(p - 1, v)) for p in self.versions[v][:2] if p]
        found = []
        for line in range(len(lines_of(self.versions[v][2]))):
            comes = [origins[kept[line]] for origins, kept in sources if line in kept]
            found.append((comes + [v])[0])
        return found

    def whence(self, v):
        if v not in self.known:
            self.known[v] = self.find_whence(v)
        return self.known[v]

    def bytes(self):
        told = []
        for p, q, data in self.versions:
            kept = patch_model(self.versions[p - 1][2], data) if p else data
            told.append((p - 1 if p else NONE, q - 1 if q else NONE, kept))
        return history_of(*told)

    def questions(self, history):
        """Every question that can be asked of the history."""
        every = range(len(self.versions))
        asked = [call(history, v) for v in every for call in (text, parents, whence)]
        return asked + [base(history, u, v) for u in every for v in every] + [save(history)]

    def replies(self):
        """What the questions are to be answered, in their order."""
        told = []
        for v, (p, q, data) in enumerate(self.versions):
            told.append((len(data), data, [], (0, 0)))
            told.append((0, b"", [p, q], (0, 0)))
            told.append((len(self.whence(v)), b"", self.whence(v), (0, 0)))
        every = range(len(self.versions))
        told += [(self.base(u, v), b"", [], (0, 0)) for u in every for v in every]
        return told + [(len(self.bytes()), self.bytes(), [], (0, 0))]


def changed_text(chance, data, signs):
    """Some of the lines dropped, some others put between them."""
    lines = [line for line in lines_of(data) if chance.randrange(5)]
    for _ in range(chance.randrange(4)):
        lines.insert(chance.randrange(len(lines) + 1), chance.choice(signs) + b"\n")
    changed = b"".join(line if line.endswith(b"\n") else line + b"\n" for line in lines)
    return changed[:-1] if chance.randrange(4) == 0 else changed


def chance_history(seed, how_many, signs):
    """Versions with no parent, with one and with two; of two parents some lines of each."""
    chance = random.Random(seed)
    versions = []
    for number in range(how_many):
        p = chance.randrange(number + 1) or number
        q = chance.choice([0] + [q for q in range(1, number + 1) if q != p])
        if number == 0 or chance.randrange(8) == 0:
            p = q = 0
        data = versions[p - 1][2] if p else chance_text(chance, signs, 8)
        if q:
            other = lines_of(versions[q - 1][2])
            data = b"".join(other[:chance.randrange(len(other) + 1)] + lines_of(data)[chance.randrange(3):])
        versions.append((p, q, changed_text(chance, data, signs)))
    return HistoryModel(versions)
