"""A history's bytes: written, and read again."""

from linesback.fours import WRONG_NUMBER, Fault, Reader, four_bytes
from linesback.histories import MOST_VERSIONS, History
from linesback.lines import are_too_large, split_lines
from linesback.patches import patched, read_patch

HISTORY_HEAD = (0x53, 0x57, 0x56, 0x48)
NO_PARENT = 0xFFFFFFFF
WRONG_KEPT = 5
TOO_MUCH_KEPT = 6


def parent_bytes(parent):
    return four_bytes(NO_PARENT if parent is None else parent)


def history_bytes(history):
    row = list(HISTORY_HEAD) + four_bytes(len(history.versions))
    for version in history.versions:
        row.extend(parent_bytes(version.first_parent))
        row.extend(parent_bytes(version.second_parent))
        row.extend(four_bytes(len(version.kept)))
        row.extend(version.kept)
    return row


def read_parent(reader, count):
    place = reader.at
    number = reader.read_four()
    if number == NO_PARENT:
        return None
    if number >= count:
        raise Fault(WRONG_NUMBER, place)
    return number


def read_second_parent(reader, count, first_parent):
    place = reader.at
    number = read_parent(reader, count)
    if number is not None and (first_parent is None or number == first_parent):
        raise Fault(WRONG_NUMBER, place)
    return number


def read_kept(reader, history):
    place = reader.at
    size = reader.read_four()
    if not history.has_room_for(size):
        raise Fault(TOO_MUCH_KEPT, place)
    return reader.read_row(size)


# None where the kept bytes should be a patch and are none.
def lines_of_kept(kept, history, first_parent):
    if first_parent is None:
        return split_lines(kept)
    parent_lines = history.versions[first_parent].lines
    try:
        patch = read_patch(kept, parent_lines)
    except Fault:
        return None
    return patched(parent_lines, patch)


def read_version(reader, history):
    count = len(history.versions)
    first_parent = read_parent(reader, count)
    second_parent = read_second_parent(reader, count, first_parent)
    place = reader.at
    kept = read_kept(reader, history)
    lines = lines_of_kept(kept, history, first_parent)
    # The size comes ahead of the version's making: how a far too large text differs would take long to find.
    if lines is None or are_too_large(lines):
        raise Fault(WRONG_KEPT, place)
    version = history.make_version(first_parent, second_parent, lines)
    if version.kept != kept:
        raise Fault(WRONG_KEPT, place)
    return version


def read_history(row):
    reader = Reader(row)
    reader.read_head(HISTORY_HEAD)
    place = reader.at
    count = reader.read_four()
    if count > MOST_VERSIONS:
        raise Fault(WRONG_NUMBER, place)
    history = History()
    while len(history.versions) < count:
        history.add_version(read_version(reader, history))
    reader.read_end()
    return history
