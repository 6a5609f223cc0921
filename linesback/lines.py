"""Texts as rows of bytes and as lists of lines. A line is a tuple of bytes, so that it can be a dict's key."""

LINE_END = 10
MOST_BYTES = 65536
MOST_LINES = 2048


def split_lines(row):
    lines = []
    start = 0
    for place, value in enumerate(row):
        if value == LINE_END:
            lines.append(tuple(row[start:place + 1]))
            start = place + 1
    if start < len(row):
        lines.append(tuple(row[start:]))
    return lines


def join_lines(lines):
    row = []
    for line in lines:
        row.extend(line)
    return row


# The empty row lacks none: nothing in it could have one.
def lacks_end(row):
    return len(row) > 0 and row[-1] != LINE_END


def last_lacks_end(lines):
    return len(lines) > 0 and lacks_end(lines[-1])


def count_lines(row):
    ends = row.count(LINE_END)
    return ends + 1 if lacks_end(row) else ends


def is_too_large(row):
    return len(row) > MOST_BYTES or count_lines(row) > MOST_LINES


def are_too_large(lines):
    return len(lines) > MOST_LINES or sum([len(line) for line in lines]) > MOST_BYTES
