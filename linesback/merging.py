"""Merged by three: what becomes of a base that two others changed."""

from linesback.lines import LINE_END, join_lines, lacks_end
from linesback.ways import kept_pairs

MARK_LENGTH = 7
MARK_BEFORE = 60
MARK_BETWEEN = 61
MARK_BEHIND = 62


class Merged:
    def __init__(self):
        self.row = []
        self.clashes = 0
        self.first_clash = 0

    def add_lines(self, lines):
        self.row.extend(join_lines(lines))

    def add_mark(self, sign):
        if lacks_end(self.row):
            self.row.append(LINE_END)
        self.row.extend([sign] * MARK_LENGTH + [LINE_END])

    # What stands before a clash always ends with a line end, so its mark begins where the row ends now.
    def add_clash(self, ours, theirs):
        if self.clashes == 0:
            self.first_clash = len(self.row)
        self.clashes += 1
        self.add_mark(MARK_BEFORE)
        self.add_lines(ours)
        self.add_mark(MARK_BETWEEN)
        self.add_lines(theirs)
        self.add_mark(MARK_BEHIND)

    def add_place(self, base, ours, theirs):
        if ours == base:
            self.add_lines(theirs)
        elif theirs == base or ours == theirs:
            self.add_lines(ours)
        else:
            self.add_clash(ours, theirs)


# A still line is told by where it stands in each of the three.
def still_lines(base, ours, theirs):
    in_theirs = dict(kept_pairs(base, theirs))
    return [(o, a, in_theirs[o]) for o, a in kept_pairs(base, ours) if o in in_theirs]


def merge_three(base, ours, theirs):
    merged = Merged()
    from_o = 0
    from_a = 0
    from_b = 0
    # The ends stand for a still line behind all, so that the last place is gone over like the others.
    ends = (len(base), len(ours), len(theirs))
    for o, a, b in still_lines(base, ours, theirs) + [ends]:
        merged.add_place(base[from_o:o], ours[from_a:a], theirs[from_b:b])
        merged.add_lines(base[o:o + 1])
        from_o = o + 1
        from_a = a + 1
        from_b = b + 1
    return merged
