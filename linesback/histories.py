"""Histories of versions, and how one is read from its bytes."""

from linesback.fours import WRONG_NUMBER, Fault, Reader
from linesback.lines import are_too_large, split_lines
from linesback.patches import patch_between, patched, read_patch

HISTORY_HEAD = (0x53, 0x57, 0x56, 0x48)
MOST_VERSIONS = 64
MOST_KEPT = 1048576
NO_PARENT = 0xFFFFFFFF
WRONG_KEPT = 5
TOO_MUCH_KEPT = 6


# A parent is a version's number, or None.
class Version:
    def __init__(self, first_parent, second_parent, lines, kept):
        self.first_parent = first_parent
        self.second_parent = second_parent
        self.lines = lines
        self.kept = kept


class History:
    def __init__(self):
        self.versions = []
        self.kept_size = 0

    def add_version(self, version):
        self.versions.append(version)
        self.kept_size += len(version.kept)


def read_parent(reader, count):
    place = reader.at
    number = reader.read_four()
    if number == NO_PARENT:
        return None
    if number >= count:
        raise Fault(WRONG_NUMBER, place)
    return number


def read_second_parent(reader, count, first_parent):
    place = reader.at
    number = read_parent(reader, count)
    if number is not None and (first_parent is None or number == first_parent):
        raise Fault(WRONG_NUMBER, place)
    return number


def read_kept(reader, kept_before):
    place = reader.at
    size = reader.read_four()
    if kept_before + size > MOST_KEPT:
        raise Fault(TOO_MUCH_KEPT, place)
    return reader.read_row(size)


# None where the kept bytes are no patch, or not the one that belongs there.
def lines_from_patch(kept, parent_lines):
    try:
        patch = read_patch(kept, parent_lines)
    except Fault:
        return None
    lines = patched(parent_lines, patch)
    # The size comes first: how a far too large text differs would take long to find.
    if are_too_large(lines) or patch_between(parent_lines, lines) != patch:
        return None
    return lines


def lines_from_text(kept):
    lines = split_lines(kept)
    return None if are_too_large(lines) else lines


def read_version(reader, history):
    count = len(history.versions)
    first_parent = read_parent(reader, count)
    second_parent = read_second_parent(reader, count, first_parent)
    place = reader.at
    kept = read_kept(reader, history.kept_size)
    if first_parent is None:
        lines = lines_from_text(kept)
    else:
        lines = lines_from_patch(kept, history.versions[first_parent].lines)
    if lines is None:
        raise Fault(WRONG_KEPT, place)
    return Version(first_parent, second_parent, lines, kept)


def read_history(row):
    reader = Reader(row)
    reader.read_head(HISTORY_HEAD)
    place = reader.at
    count = reader.read_four()
    if count > MOST_VERSIONS:
        raise Fault(WRONG_NUMBER, place)
    history = History()
    while len(history.versions) < count:
        history.add_version(read_version(reader, history))
    reader.read_end()
    return history
