"""Patches: lists of runs, each a tuple of from which line, how many lines are dropped, the lines taken."""

from linesback.fours import WRONG_NUMBER, Fault, Reader, four_bytes
from linesback.lines import join_lines, last_lacks_end, split_lines
from linesback.ways import differing_runs

PATCH_HEAD = (0x53, 0x57, 0x56, 0x31)


def patch_between(old, new):
    return [(first, dropped, new[start:start + taken]) for first, dropped, start, taken in differing_runs(old, new)]


def patch_bytes(patch):
    row = list(PATCH_HEAD) + four_bytes(len(patch))
    for first, dropped, taken in patch:
        taken_bytes = join_lines(taken)
        row.extend(four_bytes(first))
        row.extend(four_bytes(dropped))
        row.extend(four_bytes(len(taken_bytes)))
        row.extend(taken_bytes)
    return row


def run_fits(first, dropped, size, end_before, old):
    if first <= end_before or first + dropped > len(old):
        return False
    if dropped > 0:
        return True
    # Bytes behind a last line without an end would become a part of that line.
    return size > 0 and not (first == len(old) and last_lacks_end(old))


def read_run(reader, end_before, is_last, old):
    place = reader.at
    first = reader.read_four()
    dropped = reader.read_four()
    size = reader.read_four()
    if not run_fits(first, dropped, size, end_before, old):
        raise Fault(WRONG_NUMBER, place)
    taken = split_lines(reader.read_row(size))
    is_behind_all = is_last and first + dropped == len(old)
    if last_lacks_end(taken) and not is_behind_all:
        raise Fault(WRONG_NUMBER, reader.at - len(taken[-1]))
    return (first, dropped, taken)


def read_patch(row, old):
    reader = Reader(row)
    reader.read_head(PATCH_HEAD)
    count = reader.read_four()
    patch = []
    # Below line 0, so that the first run may begin anywhere.
    end_before = -1
    while len(patch) < count:
        run = read_run(reader, end_before, len(patch) == count - 1, old)
        end_before = run[0] + run[1]
        patch.append(run)
    reader.read_end()
    return patch


def patched(old, patch):
    new = []
    end_before = 0
    for first, dropped, taken in patch:
        new.extend(old[end_before:first])
        new.extend(taken)
        end_before = first + dropped
    new.extend(old[end_before:])
    return new


def turned_back(old, patch):
    back = []
    shift = 0
    for first, dropped, taken in patch:
        back.append((first + shift, len(taken), old[first:first + dropped]))
        shift += len(taken) - dropped
    return back
